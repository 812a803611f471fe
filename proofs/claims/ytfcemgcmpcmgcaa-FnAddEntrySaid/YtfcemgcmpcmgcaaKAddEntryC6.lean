/- The functions compute what their models say. -/
import Derived.Test.YtfcemgcmpcmgcaaKAddEntryC5
set_option linter.unusedVariables false
set_option linter.unusedSimpArgs false
set_option maxHeartbeats 2000000
set_option maxRecDepth 20000
namespace Go.Vs
open Go Go.Proofs
attribute [local irreducible] Code.wp Code.wpIn wpList wpListIn wpQuiet Calls CallsIn

theorem c_slices_Clone_impl_Entry_impl_Entry {Ay : List (Int × (Int × (List Int) × Int))} {Az : Option Addr} {Ba : Nat} {r : (List (Int × (Int × (List Int) × Int)))} (h : M.slices_Clone_impl_Entry_impl_Entry Ay = some r) :
    Cal2 Try.prog 57 [(Sl Az Ay Ba)] [Ch.ro 0 (Sl Az Ay Ba) Ay] (fun n0 v L => ∃ (az1 : Option Addr), ∃ (cz2 : Nat), v = (Sl az1 r cz2) ∧ L = [Ch.own n0 0 (Sl az1 r cz2) r]) := by
 refine cal2 (n := 8) Try.func57 rfl rfl rfl rfl ?_
 intro S0 σ0 n0 hn0 H
 unfold M.slices_Clone_impl_Entry_impl_Entry at h
 refine c_seq (rg (sa (.slice none 0 0) rfl (w_end (q_then (c_seq (c_seq (rg (sm (Sl Az Ay Ba) rfl (st (v := (B Az.isNone)) (rv_nilS Try.underlying23 rfl rfl) (w_end (q_then ?_)))))))))))
 refine cd_cond Az.isNone rfl (fun hb1 => ?_) (fun hb1 => ?_)
 ·have hq := RS.nilOf hb1 (H.ro 0 rfl)
  subst hq
  replace h : some [] = some r := by simpa [gapp] using h
  refine c_seq (rg (sa (.slice none 0 0) rfl (w_end (q_then (c_ret (q_then_r ?_))))))
  replace H := H.nilOwn (Int × (Int × (List Int) × Int)) n0 0
  obtain rfl := sj h
  exact fin_ret (v := (.slice none 0 0)) (results_ok Try.results57 (res_tmp (v := (.slice none 0 0)) rfl res_nil) rfl) ⟨none, 0, rfl, rfl⟩ (H.sel' [0] rfl rfl)
 ·refine c_skip ?_
  refine q_then (c_seq (rg ?_))
  refine st_ex (ex_buildSlice (el := n0) (xs := ([] : List (Int × (Int × (List Int) × Int)))) (ps := []) (cs := []) H hn0 Try.underlying23 ti43 rfl rfl (by kernel_rfl) (.nil) rfl) wn ?_
  rintro _ σ3 ⟨b2, rfl, H, -⟩
  refine sm (Sl Az Ay Ba) rfl ?_
  replace H := H.ownLow 0 n0 0 rfl (Nat.le_refl _) (Nat.zero_le _)
  revert h; refine br fun xs4 hx5 h => ?_
  refine st_ex (ex_append H (i := 0) rfl Try.underlying23 Try.underlying23 ti43 rfl rfl (by decide) (H.ro 1 rfl).rd hx5 hn0 rfl rfl) wn ?_
  rintro _ σ8 ⟨a6, c7, rfl, H, -⟩
  refine sa (Sl a6 xs4 c7) rfl (w_end (q_then (c_ret ?_)))
  obtain rfl := sj h
  exact fin_ret (v := (Sl a6 xs4 c7)) (results_ok Try.results57 (res_tmp (v := (Sl a6 xs4 c7)) rfl res_nil) rfl) ⟨a6, c7, rfl, rfl⟩ (H.sel' [0] rfl rfl)

theorem c_impl_copyLog {Av : List (Int × (Int × (List Int) × Int))} {Aw : Option Addr} {Ax : Nat} {r : (List (Int × (Int × (List Int) × Int)))} (h : M.impl_copyLog Av = some r) :
    Cal2 Try.prog 89 [(Sl Aw Av Ax)] [Ch.ro 0 (Sl Aw Av Ax) Av] (fun n0 v L => ∃ (az1 : Option Addr), ∃ (cz2 : Nat), v = (Sl az1 r cz2) ∧ L = [Ch.own n0 n0 (Sl az1 r cz2) r] ∧ cz2 = r.length) := by
 refine cal2 (n := 27) Try.func89 rfl rfl rfl rfl ?_
 intro S0 σ0 n0 hn0 H
 unfold M.impl_copyLog at h
 refine c_seq (rg (sa (.slice none 0 0) rfl (w_end (q_then (c_seq (rg (sm (Sl Aw Av Ax) rfl (st (v := (I (Av.length : Int))) (rv_len Try.underlying23 rfl) ?_))))))))
 revert h; refine br fun xs1 hx2 h => ?_
 refine st_ex (ex_make (el := n0) (z0 := ((0, (0, [], 0)) : Int × (Int × (List Int) × Int))) (zs := [(I 0), (I 0), (.slice none 0 0), (I 0)]) H hn0 Try.underlying23 ti43 rfl rfl (⟨[(I 0)], [(I 0), (.slice none 0 0), (I 0)], rfl, rfl, ⟨[(I 0)], [(.slice none 0 0), (I 0)], rfl, rfl, ⟨[(.slice none 0 0)], [(I 0)], rfl, ⟨_, rfl, RS.nil⟩, rfl⟩⟩⟩) (by decide) hx2 rfl rfl) wn ?_
 rintro _ σ6 ⟨b3, c4, rfl, ht5, H, -⟩
 replace ht5 := ht5.trans (gmake_len hx2).symm
 refine sa (Sl (some ⟨b3, 0, none⟩) xs1 c4) rfl (w_end (q_then (c_seq (c_seq (rg (sm (Sl Aw Av Ax) rfl (st (v := (I (Av.length : Int))) (rv_len Try.underlying23 rfl) (sm (I 0) rfl (w_end (q_then ?_))))))))))
 obtain ⟨o7, hj, h'⟩ := bind_some h
 clear h
 refine c_cut (fun e a w => e = .normal ∧ ∃ (ρ : Nat → Value) (σ : St), a = fr 27 (updL ρ [(3, (Sl (some ⟨b3, 0, none⟩) o7 c4))]) ∧ w = σ.w ∧ Hp S0 σ0 σ [Ch.own n0 n0 (Sl (some ⟨b3, 0, none⟩) o7 c4) o7] ∧ c4 = o7.length ∧ o7.length = xs1.length) ?_ ?_
 ·clear h'
  rename _ = some o7 => h
  refine c_blk (wp_loopM _ h (fun s8 a w => ∃ (ρ : Nat → Value) (σ : St), a = fr 27 (updL ρ [(3, (Sl (some ⟨b3, 0, none⟩) s8.1 c4)), (9, (Sl Aw Av Ax)), (10, (I (Av.length : Int))), (11, (I s8.2))]) ∧ w = σ.w ∧ Hp S0 σ0 σ [Ch.own n0 n0 (Sl (some ⟨b3, 0, none⟩) s8.1 c4) s8.1, Ch.ro 0 (Sl Aw Av Ax) Av] ∧ c4 = s8.1.length ∧ s8.1.length = xs1.length) ⟨_, σ6, fr_join ⟨rfl, rfl, rfl, rfl, trivial⟩, rfl, H.sel' [0, 1] rfl rfl, ht5, rfl⟩ ?_)
  clear h H
  rintro s8 a w o ⟨ρ, σ9, rfl, rfl, H, ht10, hn11⟩ h hres
  refine c_seq (rg (st (v := (B (decide (s8.2 < (Av.length : Int))))) (rv_lss (a := s8.2) (b := (Av.length : Int)) rfl rfl) (w_end (q_then (c_seq ?_)))))
  refine cd_cond (decide (s8.2 < (Av.length : Int))) rfl (fun hb12 => ?_) (fun hb12 => ?_)
  ·replace h := bif_t hb12 h
   refine c_skip (q_then (c_seq (c_blk (c_seq (rg (sm (I s8.2) rfl ?_))))))
   revert h; refine br fun x13 hx14 h => ?_
   obtain ⟨b16, o17, hi15, -⟩ := (H.ro 1 rfl).ix hx14
   refine st (v := (pt b16 o17)) (rv_ix Try.underlying23 ti43 rfl rfl hi15) ?_
   obtain ⟨_, ⟨_, _, rfl, rfl, ⟨_, _, rfl, rfl, ⟨_, _, rfl, ⟨_, rfl, hR22⟩, rfl⟩⟩⟩, hl18, hc19⟩ := ((H.ro 1 rfl).at hx14 hi15).cells
   obtain ⟨a20, c21, rfl⟩ := hR22.isSl
   replace H := H.add (d := Ch.ro 0 (Sl a20 x13.2.2.1 c21) x13.2.2.1) hR22 (fun _ h => h)
   clear hR22
   refine st (v := (.agg #[(I x13.1), (I x13.2.1), (Sl a20 x13.2.2.1 c21), (I x13.2.2.2)])) (rv_load Try.underlying43 rfl ti43 rfl hl18 hc19) (st_ex (ex_alloc (cs := [(I 0), (I 0), (.slice none 0 0), (I 0)]) H hn0 ti43 rfl) wn ?_)
   rintro _ σ24 ⟨b23, rfl, H, -⟩
   refine sa (I s8.2) rfl ?_
   refine st_exS (ex_store_box (k := 0) (cs := [(I 0), (I 0), (.slice none 0 0), (I 0)]) (vs := [(I x13.1), (I x13.2.1), (Sl a20 x13.2.2.1 c21), (I x13.2.2.2)]) (cs' := [(I x13.1), (I x13.2.1), (Sl a20 x13.2.2.1 c21), (I x13.2.2.2)]) H (i := 0) rfl ti43 rfl rfl rfl rfl rfl (Nat.le_of_ble_eq_true rfl) (by simp [plain]) rfl) wn ?_
   rintro σ25 ⟨H, -⟩
   refine w_end (q_then ?_)
   have hc26 := H.cell (u := (I x13.1)) (o' := 0) 0 0 rfl rfl rfl
   have hc27 := H.part (us := [(I x13.2.1), (Sl a20 x13.2.2.1 c21), (I x13.2.2.2)]) (o' := 1) 0 1 3 rfl rfl rfl rfl
   revert h; refine br fun r28 hx29 h => ?_
   have hc30 := c_impl_copyItem (Ak := a20) (Am := c21) hx29
   have Hs := H
   refine rg2 (σ := σ25) (Nm := (Option Addr) × (Nat)) 8 [6] [[false], [true]] [[(0, 0), (1, 1)], [(0, 0), (1, 1)], [(0, 0), (1, 1)], [(0, 0), (1, 1)], [(0, 0)], [(0, 0)], [(0, 1)], [(1, 1)]] 1 [fun ((a31, c32) : (Option Addr) × (Nat)) => fun σm => Hp S0 σ0 σm [Ch.bx n0 b23 0 [(I x13.1), (I x13.2.1), (Sl a20 x13.2.2.1 c21), (I x13.2.2.2)] [] [], Ch.ro 0 (Sl a20 x13.2.2.1 c21) x13.2.2.1, Ch.own n0 n0 (Sl (some ⟨b3, 0, none⟩) s8.1 c4) s8.1, Ch.ro 0 (Sl Aw Av Ax) Av] ∧ Md (cov []) σ25 σm, fun ((a31, c32) : (Option Addr) × (Nat)) => fun σm => Hp S0 σ0 σm [Ch.own n0 n0 (Sl a31 r28.2.1 c32) r28.2.1, Ch.bx n0 b23 0 [(I x13.1), (I x13.2.1), (Sl a20 x13.2.2.1 c21), (I x13.2.2.2)] [] [], Ch.ro 0 (Sl a20 x13.2.2.1 c21) x13.2.2.1, Ch.own n0 n0 (Sl (some ⟨b3, 0, none⟩) s8.1 c4) s8.1, Ch.ro 0 (Sl Aw Av Ax) Av] ∧ Md (cov []) σ25 σm] [fun ((a31, c32) : (Option Addr) × (Nat)) => (Sl (some ⟨b3, 0, none⟩) s8.1 c4), fun ((a31, c32) : (Option Addr) × (Nat)) => (I s8.2), fun ((a31, c32) : (Option Addr) × (Nat)) => (pt b23 0), fun ((a31, c32) : (Option Addr) × (Nat)) => (I x13.1), fun ((a31, c32) : (Option Addr) × (Nat)) => (pt b23 1), fun ((a31, c32) : (Option Addr) × (Nat)) => (.agg #[(I x13.2.1), (Sl a20 x13.2.2.1 c21), (I x13.2.2.2)]), fun ((a31, c32) : (Option Addr) × (Nat)) => (.agg #[(I r28.1), (Sl a31 r28.2.1 c32), (I r28.2.2)]), fun ((a31, c32) : (Option Addr) × (Nat)) => (.agg #[(I x13.1), (I r28.1), (Sl a31 r28.2.1 c32), (I r28.2.2)])] (none, 0) (by kernel_rfl) (by kernel_rfl) ?_ ?_ ?_
   ·intro σm m0
    exact ⟨H.grow (m0.mono fun _ h => h.elim), m0⟩
   ·refine ac rfl (by
      intro k; rintro ⟨a31, c32⟩ ρ σm hJ hoff hdep
      have e3 := look_off (N := 27) (hoff 3 rfl) rfl
      exact dp_v (v := (Sl (some ⟨b3, 0, none⟩) s8.1 c4)) wn (rv_move e3) rfl hJ) ?_
    refine ac rfl (by
      intro k; rintro ⟨a31, c32⟩ ρ σm hJ hoff hdep
      have e4 := look_off (N := 27) (hoff 4 rfl) rfl
      exact dp_v (v := (I s8.2)) wn (rv_move e4) rfl hJ) ?_
    refine ac rfl (by
      intro k; rintro ⟨a31, c32⟩ ρ σm hJ hoff hdep
      have e5 := look_off (N := 27) (hoff 5 rfl) rfl
      exact dp_v (v := (pt b23 0)) wn (rv_fieldAddr (off := 0) (ft := 3) Try.underlying43 rfl ti3 rfl e5) rfl hJ) ?_
    refine all_cons (by
      refine ⟨?_, ?_⟩
      ·rintro ⟨a31, c32⟩ ρ σm hJ hoff hdep
       have e18 := hdep 2 rfl rfl 18 rfl
       obtain ⟨H, m⟩ := id hJ
       have hc26 := H.cell (u := (I x13.1)) (o' := 0) 0 0 rfl rfl rfl
       exact dp_v (v := (I x13.1)) wn (rv_load1 Try.underlying3 rfl e18 hc26) rfl hJ
      refine ⟨?_, ?_⟩
      ·rintro ⟨a31, c32⟩ ρ σm hJ hoff hdep
       have e18 := hdep 2 rfl rfl 18 rfl
       obtain ⟨H, m⟩ := id hJ
       have hc26 := H.cell (u := (I x13.1)) (o' := 0) 1 0 rfl rfl rfl
       exact dp_v (v := (I x13.1)) wn (rv_load1 Try.underlying3 rfl e18 hc26) rfl hJ
      trivial) ?_
    refine ac rfl (by
      intro k; rintro ⟨a31, c32⟩ ρ σm hJ hoff hdep
      have e5 := look_off (N := 27) (hoff 5 rfl) rfl
      exact dp_v (v := (pt b23 1)) wn (rv_fieldAddr (off := 1) (ft := 41) Try.underlying43 rfl ti41 rfl e5) rfl hJ) ?_
    refine all_cons (by
      refine ⟨?_, ?_⟩
      ·rintro ⟨a31, c32⟩ ρ σm hJ hoff hdep
       have e20 := hdep 4 rfl rfl 20 rfl
       obtain ⟨H, m⟩ := id hJ
       have hc27 := H.part (us := [(I x13.2.1), (Sl a20 x13.2.2.1 c21), (I x13.2.2.2)]) (o' := 1) 0 1 3 rfl rfl rfl rfl
       exact dp_v (v := (.agg #[(I x13.2.1), (Sl a20 x13.2.2.1 c21), (I x13.2.2.2)])) wn (rv_load (cs := [(I x13.2.1), (Sl a20 x13.2.2.1 c21), (I x13.2.2.2)]) Try.underlying41 rfl ti41 e20 rfl hc27) rfl hJ
      trivial) ?_
    refine all_cons (by
      refine ⟨?_, ?_⟩
      ·rintro ⟨a31, c32⟩ ρ σm hJ hoff hdep
       have e21 : look 27 ρ 21 = (.agg #[(I x13.2.1), (Sl a20 x13.2.2.1 c21), (I x13.2.2.2)]) := hdep 5 rfl rfl 21 rfl
       obtain ⟨H, m⟩ := id hJ
       refine dp_cx wn (cx_call hc30 (ent_f hc30.fn (by show [look 27 ρ 21] = _; rw [e21])) hn0 (H.sel' [1, 0, 1, 2, 3] rfl rfl : Hp S0 σ0 _ ([_] ++ _))) ?_
       rintro _ σq ⟨_, ⟨a31x, c32x, rfl, rfl⟩, H2, m2⟩
       exact ⟨_, (a31x, c32x), rfl, rfl, ⟨H2.sel' [0, 1, 2, 3, 4] rfl rfl, m.comp0 (m2.mono (fun i h => by simp [cov, Ch.ro] at h))⟩, stab [0, 1, 2, 3, 4, 5] (by kernel_rfl) ⟨rfl, rfl, rfl, rfl, rfl, rfl, trivial⟩⟩
      trivial) ?_
    refine ac rfl (by
      intro k; rintro ⟨a31, c32⟩ ρ σm hJ hoff hdep
      have e19 : look 27 ρ 19 = (I x13.1) := hdep 3 rfl rfl 19 rfl
      have e22 : look 27 ρ 22 = (.agg #[(I r28.1), (Sl a31 r28.2.1 c32), (I r28.2.2)]) := hdep 6 rfl rfl 22 rfl
      exact dp_v (v := (.agg #[(I x13.1), (I r28.1), (Sl a31 r28.2.1 c32), (I r28.2.2)])) wn (rv_build (ps := [(0, (I x13.1)), (1, (.agg #[(I r28.1), (Sl a31 r28.2.1 c32), (I r28.2.2)]))]) Try.underlying43 ti43 (bp43 Try.underlying43) (by show [(0, look 27 ρ 19), (1, look 27 ρ 22)] = _; rw [e19, e22]) (by kernel_rfl)) rfl hJ) ?_
    exact all_nil
   ·rintro ⟨a31, c32⟩ ρ σ33 hJ hoff hrel
    have e3 := look_off (N := 27) (hoff 3 rfl) rfl
    have e9 := look_off (N := 27) (hoff 9 rfl) rfl
    have e10 := look_off (N := 27) (hoff 10 rfl) rfl
    have e11 := look_off (N := 27) (hoff 11 rfl) rfl
    have e16 := hrel 0 rfl 16 rfl
    have e17 := hrel 1 rfl 17 rfl
    have e23 := hrel 7 rfl 23 rfl
    obtain ⟨H, -⟩ := (show Hp S0 σ0 σ33 [Ch.own n0 n0 (Sl a31 r28.2.1 c32) r28.2.1, Ch.bx n0 b23 0 [(I x13.1), (I x13.2.1), (Sl a20 x13.2.2.1 c21), (I x13.2.2.2)] [] [], Ch.ro 0 (Sl a20 x13.2.2.1 c21) x13.2.2.1, Ch.own n0 n0 (Sl (some ⟨b3, 0, none⟩) s8.1 c4) s8.1, Ch.ro 0 (Sl Aw Av Ax) Av] ∧ Md (cov []) σ25 σ33 from hJ)
    clear hJ Hs
    rw [fr_lookL (L := [(3, (Sl (some ⟨b3, 0, none⟩) s8.1 c4)), (9, (Sl Aw Av Ax)), (10, (I (Av.length : Int))), (11, (I s8.2)), (16, (Sl (some ⟨b3, 0, none⟩) s8.1 c4)), (17, (I s8.2)), (23, (.agg #[(I x13.1), (I r28.1), (Sl a31 r28.2.1 c32), (I r28.2.2)]))]) ⟨e3, e9, e10, e11, e16, e17, e23, trivial⟩]
    clear hoff hrel e3 e9 e10 e11 e16 e17 e23
    revert h; refine br fun x34 hx35 h => ?_
    obtain ⟨b37, o38, hi36, -⟩ := (H.own 3 rfl).ix hx35
    refine st (v := (pt b37 o38)) (rv_ix Try.underlying23 ti43 rfl rfl hi36) ?_
    obtain ⟨σ39, hw40, H, -⟩ := H.pub 0 rfl (Nat.le_refl _)
    rw [← hw40]; clear hw40
    refine st_exS (ex_store_own (e' := (x13.1, (r28.1, r28.2.1, r28.2.2))) (vs := [(I x13.1), (I r28.1), (Sl a31 r28.2.1 c32), (I r28.2.2)]) (k := 0) H (i := 3) rfl ti43 hx35 hi36 rfl rfl rfl rfl rfl (Nat.le_of_ble_eq_true rfl) (by simp [plain]) (by rintro _ ⟨_, _, rfl, rfl, ⟨_, _, rfl, rfl, ⟨_, _, rfl, ⟨_, rfl, hR43⟩, rfl⟩⟩⟩; exact ⟨[(I x13.1)], [(I r28.1), (Sl a31 r28.2.1 c32), (I r28.2.2)], rfl, rfl, ⟨[(I r28.1)], [(Sl a31 r28.2.1 c32), (I r28.2.2)], rfl, rfl, ⟨[(Sl a31 r28.2.1 c32)], [(I r28.2.2)], rfl, ⟨_, rfl, (H.ro 0 rfl)⟩, rfl⟩⟩⟩)) wn ?_
    rintro σ44 ⟨H, -⟩
    have hsl : (Sl (some ⟨b3, 0, none⟩) s8.1 c4) = (Sl (some ⟨b3, 0, none⟩) (s8.1.set s8.2.toNat (x13.1, (r28.1, r28.2.1, r28.2.2))) c4) := sl_len List.length_set.symm
    rw [hsl]; rw [hsl] at H; clear hsl
    refine w_end (q_blk (q_then (rg (st (v := (I (w64 (s8.2 + 1)))) (rv_add (a := s8.2) (b := 1) rfl rfl) (sm (I (w64 (s8.2 + 1))) rfl (w_end (q_then ?_)))))))
    obtain rfl := sj h
    exact ⟨_, rfl, _, σ44, fr_join ⟨rfl, rfl, rfl, rfl, trivial⟩, rfl, H.sel' [0, 4] rfl rfl, (ht10.trans List.length_set.symm), (List.length_set.trans hn11)⟩
  ·replace h := bif_f hb12 h
   refine c_exit (q_then_x (q_then_x (q_blk_hit ?_)))
   obtain rfl := sj h
   obtain rfl := hres _ rfl
   exact ⟨rfl, _, σ9, fr_join ⟨rfl, trivial⟩, rfl, H.sel' [0] rfl rfl, ht10, hn11⟩
 ·clear hj
  have h := h'
  clear h' H
  rintro e a w ⟨rfl, ρ, σ45, rfl, rfl, H, ht46, hn47⟩
  refine q_then (c_seq (rg (sm (Sl (some ⟨b3, 0, none⟩) o7 c4) rfl (sa (Sl (some ⟨b3, 0, none⟩) o7 c4) rfl (w_end (q_then (c_ret ?_)))))))
  obtain rfl := sj h
  exact fin_ret (v := (Sl (some ⟨b3, 0, none⟩) o7 c4)) (results_ok Try.results89 (res_tmp (v := (Sl (some ⟨b3, 0, none⟩) o7 c4)) rfl res_nil) rfl) ⟨(some ⟨b3, 0, none⟩), c4, rfl, rfl, ht46⟩ (H.sel' [0] rfl rfl)

theorem c_impl_History_firstEntries {Cc : (List (Int × (Int × (List Int) × Int))) × (List Int)} {Ds : Int} {Cd : Option Addr} {Ce : Nat} {Cf : Option Addr} {Cg : Nat} {r : ((List (Int × (Int × (List Int) × Int))) × (List Int))} (h : M.impl_History_firstEntries Cc Ds = some r) :
    Cal2 Try.prog 59 [(.agg #[(Sl Cd Cc.1 Ce), (Sl Cf Cc.2 Cg)]), (I Ds)] [Ch.ro 0 (Sl Cd Cc.1 Ce) Cc.1, Ch.ro 0 (Sl Cf Cc.2 Cg) Cc.2] (fun n0 v L => ∃ (az1 : Option Addr), ∃ (cz2 : Nat), ∃ (az4 : Option Addr), ∃ (cz5 : Nat), v = (.agg #[(Sl az1 r.1 cz2), (Sl az4 r.2 cz5)]) ∧ L = [Ch.own n0 n0 (Sl az1 r.1 cz2) r.1, Ch.own n0 n0 (Sl az4 r.2 cz5) r.2] ∧ cz2 = r.1.length) := by
 refine cal2 (n := 16) Try.func59 rfl rfl rfl rfl ?_
 intro S0 σ0 n0 hn0 H
 unfold M.impl_History_firstEntries at h
 refine c_seq (rg (st_ex (ex_box (cs := [(Sl Cd Cc.1 Ce), (Sl Cf Cc.2 Cg)]) H hn0 rfl rfl) wn ?_))
 rintro _ σ2 ⟨b1, rfl, H, -⟩
 refine st_ex (ex_alloc (cs := [(.slice none 0 0), (.slice none 0 0)]) H hn0 ti26 rfl) wn ?_
 rintro _ σ4 ⟨b3, rfl, H, -⟩
 refine w_end (q_then (c_seq ?_))
 have hc5 := H.cell (u := (Sl Cd Cc.1 Ce)) (o' := 0) 1 0 rfl rfl rfl
 revert h; refine br fun xs6 hx7 h => ?_
 obtain ⟨a8, c9, hs10, hR11⟩ := (H.ro 2 rfl).slice hx7
 replace H := H.add (d := Ch.ro 0 (Sl a8 xs6 c9) xs6) hR11 (fun _ h => h)
 clear hR11
 revert h; refine br fun r12 hx13 h => ?_
 have hc14 := c_impl_copyLog (Aw := a8) (Ax := c9) hx13
 have hc18 := H.cell (u := (Sl Cf Cc.2 Cg)) (o' := 1) 2 1 rfl rfl rfl
 revert h; refine br fun xs19 hx20 h => ?_
 obtain ⟨a21, c22, hs23, hR24⟩ := (H.ro 4 rfl).slice hx20
 replace H := H.add (d := Ch.ro 0 (Sl a21 xs19 c22) xs19) hR24 (fun _ h => h)
 clear hR24
 have Hs := H
 refine rg2 (σ := σ4) (Nm := (Option Addr) × (Nat)) 9 [4] [[false], [true]] [[(0, 0)], [(0, 0)], [(0, 0)], [(0, 0)], [(0, 1)], [(0, 0), (1, 1)], [(0, 0), (1, 1)], [(0, 0), (1, 1)], [(0, 0), (1, 1)]] 1 [fun ((a15, c16) : (Option Addr) × (Nat)) => fun σm => Hp S0 σ0 σm [Ch.ro 0 (Sl a21 xs19 c22) xs19, Ch.ro 0 (Sl a8 xs6 c9) xs6, Ch.bx n0 b3 0 [(.slice none 0 0), (.slice none 0 0)] [] [], Ch.bx n0 b1 0 [(Sl Cd Cc.1 Ce), (Sl Cf Cc.2 Cg)] [] [], Ch.ro 0 (Sl Cd Cc.1 Ce) Cc.1, Ch.ro 0 (Sl Cf Cc.2 Cg) Cc.2] ∧ Md (cov []) σ4 σm, fun ((a15, c16) : (Option Addr) × (Nat)) => fun σm => Hp S0 σ0 σm [Ch.own n0 n0 (Sl a15 r12 c16) r12, Ch.ro 0 (Sl a21 xs19 c22) xs19, Ch.ro 0 (Sl a8 xs6 c9) xs6, Ch.bx n0 b3 0 [(.slice none 0 0), (.slice none 0 0)] [] [], Ch.bx n0 b1 0 [(Sl Cd Cc.1 Ce), (Sl Cf Cc.2 Cg)] [] [], Ch.ro 0 (Sl Cd Cc.1 Ce) Cc.1, Ch.ro 0 (Sl Cf Cc.2 Cg) Cc.2] ∧ Md (cov []) σ4 σm ∧ c16 = r12.length] [fun ((a15, c16) : (Option Addr) × (Nat)) => (pt b1 0), fun ((a15, c16) : (Option Addr) × (Nat)) => (Sl Cd Cc.1 Ce), fun ((a15, c16) : (Option Addr) × (Nat)) => (I Ds), fun ((a15, c16) : (Option Addr) × (Nat)) => (Sl a8 xs6 c9), fun ((a15, c16) : (Option Addr) × (Nat)) => (Sl a15 r12 c16), fun ((a15, c16) : (Option Addr) × (Nat)) => (pt b1 1), fun ((a15, c16) : (Option Addr) × (Nat)) => (Sl Cf Cc.2 Cg), fun ((a15, c16) : (Option Addr) × (Nat)) => (I Ds), fun ((a15, c16) : (Option Addr) × (Nat)) => (Sl a21 xs19 c22)] (none, 0) (by kernel_rfl) (by kernel_rfl) ?_ ?_ ?_
 ·intro σm m0
  exact ⟨H.grow (m0.mono fun _ h => h.elim), m0⟩
 ·refine ac rfl (by
    intro k; rintro ⟨a15, c16⟩ ρ σm hJ hoff hdep
    have e2 := look_off (N := 16) (hoff 2 rfl) rfl
    exact dp_v (v := (pt b1 0)) wn (rv_fieldAddr (off := 0) (ft := 23) Try.underlying26 rfl ti23 rfl e2) rfl hJ) ?_
  refine all_cons (by
    refine ⟨?_, ?_⟩
    ·rintro ⟨a15, c16⟩ ρ σm hJ hoff hdep
     have e5 := hdep 0 rfl rfl 5 rfl
     obtain ⟨H, m⟩ := id hJ
     have hc5 := H.cell (u := (Sl Cd Cc.1 Ce)) (o' := 0) 3 0 rfl rfl rfl
     exact dp_v (v := (Sl Cd Cc.1 Ce)) wn (rv_load1 Try.underlying23 rfl e5 hc5) rfl hJ
    trivial) ?_
  refine ac rfl (by
    intro k; rintro ⟨a15, c16⟩ ρ σm hJ hoff hdep
    have e1 := look_off (N := 16) (hoff 1 rfl) rfl
    exact dp_v (v := (I Ds)) wn (rv_move e1) rfl hJ) ?_
  refine ac rfl (by
    intro k; rintro ⟨a15, c16⟩ ρ σm hJ hoff hdep
    have e6 := hdep 1 rfl rfl 6 rfl
    have e7 := hdep 2 rfl rfl 7 rfl
    exact dp_v (v := (Sl a8 xs6 c9)) wn (rv_slice_h Try.underlying23 ti43 hs10 e6 e7) rfl hJ) ?_
  refine all_cons (by
    refine ⟨?_, ?_⟩
    ·rintro ⟨a15, c16⟩ ρ σm hJ hoff hdep
     have e8 : look 16 ρ 8 = (Sl a8 xs6 c9) := hdep 3 rfl rfl 8 rfl
     obtain ⟨H, m⟩ := id hJ
     refine dp_cx wn (cx_call hc14 (ent_f hc14.fn (by show [look 16 ρ 8] = _; rw [e8])) hn0 (H.sel' [1, 0, 1, 2, 3, 4, 5] rfl rfl : Hp S0 σ0 _ ([_] ++ _))) ?_
     rintro _ σq ⟨_, ⟨a15x, c16x, rfl, rfl, ht17⟩, H2, m2⟩
     exact ⟨_, (a15x, c16x), rfl, rfl, ⟨H2.sel' [0, 1, 2, 3, 4, 5, 6] rfl rfl, m.comp0 (m2.mono (fun i h => by simp [cov, Ch.ro] at h)), ht17⟩, stab [0, 1, 2, 3, 5, 6, 7, 8] (by kernel_rfl) ⟨rfl, rfl, rfl, rfl, rfl, rfl, rfl, rfl, trivial⟩⟩
    trivial) ?_
  refine ac rfl (by
    intro k; rintro ⟨a15, c16⟩ ρ σm hJ hoff hdep
    have e2 := look_off (N := 16) (hoff 2 rfl) rfl
    exact dp_v (v := (pt b1 1)) wn (rv_fieldAddr (off := 1) (ft := 24) Try.underlying26 rfl ti24 rfl e2) rfl hJ) ?_
  refine all_cons (by
    refine ⟨?_, ?_⟩
    ·rintro ⟨a15, c16⟩ ρ σm hJ hoff hdep
     have e10 := hdep 5 rfl rfl 10 rfl
     obtain ⟨H, m⟩ := id hJ
     have hc18 := H.cell (u := (Sl Cf Cc.2 Cg)) (o' := 1) 3 1 rfl rfl rfl
     exact dp_v (v := (Sl Cf Cc.2 Cg)) wn (rv_load1 Try.underlying24 rfl e10 hc18) rfl hJ
    refine ⟨?_, ?_⟩
    ·rintro ⟨a15, c16⟩ ρ σm hJ hoff hdep
     have e10 := hdep 5 rfl rfl 10 rfl
     obtain ⟨H, m, ht17⟩ := id hJ
     have hc18 := H.cell (u := (Sl Cf Cc.2 Cg)) (o' := 1) 4 1 rfl rfl rfl
     exact dp_v (v := (Sl Cf Cc.2 Cg)) wn (rv_load1 Try.underlying24 rfl e10 hc18) rfl hJ
    trivial) ?_
  refine ac rfl (by
    intro k; rintro ⟨a15, c16⟩ ρ σm hJ hoff hdep
    have e1 := look_off (N := 16) (hoff 1 rfl) rfl
    exact dp_v (v := (I Ds)) wn (rv_move e1) rfl hJ) ?_
  refine ac rfl (by
    intro k; rintro ⟨a15, c16⟩ ρ σm hJ hoff hdep
    have e11 := hdep 6 rfl rfl 11 rfl
    have e12 := hdep 7 rfl rfl 12 rfl
    exact dp_v (v := (Sl a21 xs19 c22)) wn (rv_slice_h Try.underlying24 ti3 hs23 e11 e12) rfl hJ) ?_
  exact all_nil
 ·rintro ⟨a15, c16⟩ ρ σ25 hJ hoff hrel
  have e4 := look_off (N := 16) (hoff 4 rfl) rfl
  have e9 := hrel 4 rfl 9 rfl
  have e13 := hrel 8 rfl 13 rfl
  obtain ⟨H, -, ht17⟩ := (show Hp S0 σ0 σ25 [Ch.own n0 n0 (Sl a15 r12 c16) r12, Ch.ro 0 (Sl a21 xs19 c22) xs19, Ch.ro 0 (Sl a8 xs6 c9) xs6, Ch.bx n0 b3 0 [(.slice none 0 0), (.slice none 0 0)] [] [], Ch.bx n0 b1 0 [(Sl Cd Cc.1 Ce), (Sl Cf Cc.2 Cg)] [] [], Ch.ro 0 (Sl Cd Cc.1 Ce) Cc.1, Ch.ro 0 (Sl Cf Cc.2 Cg) Cc.2] ∧ Md (cov []) σ4 σ25 ∧ c16 = r12.length from hJ)
  clear hJ Hs
  rw [fr_lookL (L := [(4, (pt b3 0)), (9, (Sl a15 r12 c16)), (13, (Sl a21 xs19 c22))]) ⟨e4, e9, e13, trivial⟩]
  clear hoff hrel e4 e9 e13
  revert h; refine br fun r26 hx27 h => ?_
  have hc28 := c_slices_Clone_int_int (Az := a21) (Ba := c22) hx27
  refine st_call (cx_call hc28 (ent_f hc28.fn rfl) hn0 (H.sel' [1, 0, 1, 2, 3, 4, 5, 6] rfl rfl : Hp S0 σ0 _ ([_] ++ _))) wn ?_
  rintro _ σ31 ⟨_, ⟨a29, c30, rfl, rfl⟩, H, -⟩
  replace H : Hp _ _ _ [_, _, _, _, _, _, _, _] := H
  replace H : Hp S0 σ0 σ31 [Ch.own n0 n0 (Sl a29 r26 c30) r26, Ch.own n0 n0 (Sl a15 r12 c16) r12, Ch.bx n0 b3 0 [(.slice none 0 0), (.slice none 0 0)] [] []] := H.sel' [0, 1, 4] rfl rfl
  refine st (v := (.agg #[(Sl a15 r12 c16), (Sl a29 r26 c30)])) (rv_build (ps := [(0, (Sl a15 r12 c16)), (1, (Sl a29 r26 c30))]) Try.underlying26 ti26 (bp26 Try.underlying26) rfl (by kernel_rfl)) ?_
  refine st_exS (ex_store_box (k := 0) (cs := [(.slice none 0 0), (.slice none 0 0)]) (vs := [(Sl a15 r12 c16), (Sl a29 r26 c30)]) (cs' := [(Sl a15 r12 c16), (Sl a29 r26 c30)]) H (i := 2) rfl ti26 rfl rfl rfl rfl rfl (Nat.le_of_ble_eq_true rfl) (by simp [plain]) rfl) wn ?_
  rintro σ32 ⟨H, -⟩
  refine w_end (q_then (c_ret ?_))
  obtain rfl := sj h
  exact fin_ret (v := (.agg #[(Sl a15 r12 c16), (Sl a29 r26 c30)])) (results_ok Try.results59 (res_cell rfl (run_cellRes (cs := [(Sl a15 r12 c16), (Sl a29 r26 c30)]) Try.underlying26 rfl ti26 rfl (H.cells 0 rfl)) res_nil) rfl) ⟨a15, c16, a29, c30, rfl, rfl, ht17⟩ (H.sel' [2, 1] rfl rfl)

theorem c_impl_AddEntry {Cc : (List (Int × (Int × (List Int) × Int))) × (List Int)} {Cm : Int × (Int × (List Int) × Int)} {Dn : Int} {Cd : Option Addr} {Ce : Nat} {Cf : Option Addr} {Cg : Nat} {Cn : Option Addr} {Cp : Nat} {r : ((List (Int × (Int × (List Int) × Int))) × (List Int)) × Bool} (h : M.impl_AddEntry Cc Cm Dn = some r) :
    Cal2 Try.prog 27 [(.agg #[(Sl Cd Cc.1 Ce), (Sl Cf Cc.2 Cg)]), (.agg #[(I Cm.1), (I Cm.2.1), (Sl Cn Cm.2.2.1 Cp), (I Cm.2.2.2)]), (I Dn)] [Ch.ro 0 (Sl Cd Cc.1 Ce) Cc.1, Ch.ro 0 (Sl Cf Cc.2 Cg) Cc.2, Ch.ro 0 (Sl Cn Cm.2.2.1 Cp) Cm.2.2.1] (fun n0 v L => ∃ (az1 : Option Addr), ∃ (cz2 : Nat), ∃ (az4 : Option Addr), ∃ (cz5 : Nat), v = (.tuple #[(.agg #[(Sl az1 r.1.1 cz2), (Sl az4 r.1.2 cz5)]), (B r.2)]) ∧ L = [Ch.own n0 n0 (Sl az1 r.1.1 cz2) r.1.1, Ch.own n0 n0 (Sl az4 r.1.2 cz5) r.1.2] ∧ cz2 = r.1.1.length) := by
 refine cal2 (n := 31) Try.func27 rfl rfl rfl rfl ?_
 intro S0 σ0 n0 hn0 H
 unfold M.impl_AddEntry at h
 refine c_seq (rg (st_ex (ex_box (cs := [(Sl Cd Cc.1 Ce), (Sl Cf Cc.2 Cg)]) H hn0 rfl rfl) wn ?_))
 rintro _ σ2 ⟨b1, rfl, H, -⟩
 refine st_ex (ex_box (cs := [(I Cm.1), (I Cm.2.1), (Sl Cn Cm.2.2.1 Cp), (I Cm.2.2.2)]) H hn0 rfl rfl) wn ?_
 rintro _ σ4 ⟨b3, rfl, H, -⟩
 refine st_ex (ex_alloc (cs := [(.slice none 0 0), (.slice none 0 0)]) H hn0 ti26 rfl) wn ?_
 rintro _ σ6 ⟨b5, rfl, H, -⟩
 refine sa (B false) rfl (w_end (q_then (c_seq ?_)))
 have hc7 := H.cell (u := (Sl Cd Cc.1 Ce)) (o' := 0) 2 0 rfl rfl rfl
 revert h; refine br fun r8 hx9 h => ?_
 have hc10 := c_slices_Clone_impl_Entry_impl_Entry (Az := Cd) (Ba := Ce) hx9
 have hc13 := H.cells 1 rfl
 revert h; refine br fun xs15 hx16 h => ?_
 have hc19 := H.cell (u := (Sl Cf Cc.2 Cg)) (o' := 1) 2 1 rfl rfl rfl
 revert h; refine br fun r20 hx21 h => ?_
 have hc22 := c_slices_Clone_int_int (Az := Cf) (Ba := Cg) hx21
 revert h; refine br fun xs26 hx27 h => ?_
 have Hs := H
 refine rg2 (σ := σ6) (Nm := ((((Option Addr) × (Nat)) × ((Nat) × ((Option Addr) × (Nat)))) × (((Option Addr) × ((Nat) × (Nat))) × ((Option Addr) × ((Nat) × (Nat)))))) 14 [2, 4, 5, 8, 10, 11, 13] [[false, false, false, false, false, false, false], [true, false, false, false, false, false, false], [false, true, false, false, false, false, false], [false, false, false, false, true, false, false], [false, false, false, false, false, false, true], [true, true, false, false, false, false, false], [true, false, false, false, true, false, false], [true, false, false, false, false, false, true], [false, true, false, false, true, false, false], [false, true, false, false, false, false, true], [false, false, false, false, true, false, true], [true, true, true, false, false, false, false], [true, true, false, false, true, false, false], [true, true, false, false, false, false, true], [true, false, false, false, true, false, true], [false, true, false, false, true, false, true], [true, true, true, true, false, false, false], [true, true, true, false, true, false, false], [true, true, true, false, false, false, true], [true, true, false, false, true, false, true], [true, true, true, true, true, false, false], [true, true, true, true, false, false, true], [true, true, true, false, true, false, true], [true, true, true, true, true, true, false], [true, true, true, true, true, false, true], [true, true, true, true, true, true, true]] [[(0, 0), (2, 2), (3, 3), (4, 4), (8, 8), (9, 9), (10, 10), (15, 15)], [(0, 0), (2, 2), (3, 3), (4, 4), (8, 8), (9, 9), (10, 10), (15, 15)], [(0, 1), (2, 5), (3, 6), (4, 7), (8, 12), (9, 13), (10, 14), (15, 19)], [(0, 0), (1, 1), (3, 3), (4, 4), (6, 6), (7, 7), (10, 10), (14, 14)], [(0, 2), (1, 5), (3, 8), (4, 9), (6, 12), (7, 13), (10, 15), (14, 19)], [(5, 11), (12, 17), (13, 18), (19, 22)], [(0, 0), (1, 1), (2, 2), (3, 3), (4, 4), (5, 5), (6, 6), (7, 7), (8, 8), (9, 9), (10, 10), (11, 11), (12, 12), (13, 13), (14, 14), (15, 15), (17, 17), (18, 18), (19, 19), (22, 22)], [(0, 0), (1, 1), (2, 2), (3, 3), (4, 4), (5, 5), (6, 6), (7, 7), (8, 8), (9, 9), (10, 10), (11, 11), (12, 12), (13, 13), (14, 14), (15, 15), (17, 17), (18, 18), (19, 19), (22, 22)], [(11, 16), (17, 20), (18, 21), (22, 24)], [(0, 0), (1, 1), (2, 2), (4, 4), (5, 5), (7, 7), (9, 9), (11, 11), (13, 13), (16, 16), (18, 18), (21, 21)], [(0, 3), (1, 6), (2, 8), (4, 10), (5, 12), (7, 14), (9, 15), (11, 17), (13, 19), (16, 20), (18, 22), (21, 24)], [(20, 23), (24, 25)], [(23, 23), (25, 25)], [(0, 4), (1, 7), (2, 9), (3, 10), (5, 13), (6, 14), (8, 15), (11, 18), (12, 19), (16, 21), (17, 22), (20, 24), (23, 25)]] 25 [fun ((((a11, c12), (b14, (a17, c18))), ((a23, (c24, b25)), (a28, (c29, b30)))) : ((((Option Addr) × (Nat)) × ((Nat) × ((Option Addr) × (Nat)))) × (((Option Addr) × ((Nat) × (Nat))) × ((Option Addr) × ((Nat) × (Nat)))))) => fun σm => Hp S0 σ0 σm [Ch.bx n0 b5 0 [(.slice none 0 0), (.slice none 0 0)] [] [], Ch.bx n0 b3 0 [(I Cm.1), (I Cm.2.1), (Sl Cn Cm.2.2.1 Cp), (I Cm.2.2.2)] [] [], Ch.bx n0 b1 0 [(Sl Cd Cc.1 Ce), (Sl Cf Cc.2 Cg)] [] [], Ch.ro 0 (Sl Cd Cc.1 Ce) Cc.1, Ch.ro 0 (Sl Cf Cc.2 Cg) Cc.2, Ch.ro 0 (Sl Cn Cm.2.2.1 Cp) Cm.2.2.1] ∧ Md (cov []) σ6 σm, fun ((((a11, c12), (b14, (a17, c18))), ((a23, (c24, b25)), (a28, (c29, b30)))) : ((((Option Addr) × (Nat)) × ((Nat) × ((Option Addr) × (Nat)))) × (((Option Addr) × ((Nat) × (Nat))) × ((Option Addr) × ((Nat) × (Nat)))))) => fun σm => Hp S0 σ0 σm [Ch.own n0 0 (Sl a11 r8 c12) r8, Ch.bx n0 b5 0 [(.slice none 0 0), (.slice none 0 0)] [] [], Ch.bx n0 b3 0 [(I Cm.1), (I Cm.2.1), (Sl Cn Cm.2.2.1 Cp), (I Cm.2.2.2)] [] [], Ch.bx n0 b1 0 [(Sl Cd Cc.1 Ce), (Sl Cf Cc.2 Cg)] [] [], Ch.ro 0 (Sl Cd Cc.1 Ce) Cc.1, Ch.ro 0 (Sl Cf Cc.2 Cg) Cc.2, Ch.ro 0 (Sl Cn Cm.2.2.1 Cp) Cm.2.2.1] ∧ Md (cov []) σ6 σm, fun ((((a11, c12), (b14, (a17, c18))), ((a23, (c24, b25)), (a28, (c29, b30)))) : ((((Option Addr) × (Nat)) × ((Nat) × ((Option Addr) × (Nat)))) × (((Option Addr) × ((Nat) × (Nat))) × ((Option Addr) × ((Nat) × (Nat)))))) => fun σm => Hp S0 σ0 σm [Ch.own n0 0 (Sl (some ⟨b14, 0, none⟩) ([(Cm.1, (Cm.2.1, Cm.2.2.1, Cm.2.2.2))] : List (Int × (Int × (List Int) × Int))) 1) ([(Cm.1, (Cm.2.1, Cm.2.2.1, Cm.2.2.2))] : List (Int × (Int × (List Int) × Int))), Ch.bx n0 b5 0 [(.slice none 0 0), (.slice none 0 0)] [] [], Ch.bx n0 b3 0 [(I Cm.1), (I Cm.2.1), (Sl Cn Cm.2.2.1 Cp), (I Cm.2.2.2)] [] [], Ch.bx n0 b1 0 [(Sl Cd Cc.1 Ce), (Sl Cf Cc.2 Cg)] [] [], Ch.ro 0 (Sl Cd Cc.1 Ce) Cc.1, Ch.ro 0 (Sl Cf Cc.2 Cg) Cc.2, Ch.ro 0 (Sl Cn Cm.2.2.1 Cp) Cm.2.2.1] ∧ Md (cov []) σ6 σm, fun ((((a11, c12), (b14, (a17, c18))), ((a23, (c24, b25)), (a28, (c29, b30)))) : ((((Option Addr) × (Nat)) × ((Nat) × ((Option Addr) × (Nat)))) × (((Option Addr) × ((Nat) × (Nat))) × ((Option Addr) × ((Nat) × (Nat)))))) => fun σm => Hp S0 σ0 σm [Ch.own n0 n0 (Sl (some ⟨b25, 0, none⟩) ([Dn] : List Int) 1) ([Dn] : List Int), Ch.bx n0 b5 0 [(.slice none 0 0), (.slice none 0 0)] [] [], Ch.bx n0 b3 0 [(I Cm.1), (I Cm.2.1), (Sl Cn Cm.2.2.1 Cp), (I Cm.2.2.2)] [] [], Ch.bx n0 b1 0 [(Sl Cd Cc.1 Ce), (Sl Cf Cc.2 Cg)] [] [], Ch.ro 0 (Sl Cd Cc.1 Ce) Cc.1, Ch.ro 0 (Sl Cf Cc.2 Cg) Cc.2, Ch.ro 0 (Sl Cn Cm.2.2.1 Cp) Cm.2.2.1] ∧ Md (cov []) σ6 σm, fun ((((a11, c12), (b14, (a17, c18))), ((a23, (c24, b25)), (a28, (c29, b30)))) : ((((Option Addr) × (Nat)) × ((Nat) × ((Option Addr) × (Nat)))) × (((Option Addr) × ((Nat) × (Nat))) × ((Option Addr) × ((Nat) × (Nat)))))) => fun σm => Hp S0 σ0 σm [Ch.bx n0 b30 0 [(.slice none 0 0), (.slice none 0 0)] [] [], Ch.bx n0 b5 0 [(.slice none 0 0), (.slice none 0 0)] [] [], Ch.bx n0 b3 0 [(I Cm.1), (I Cm.2.1), (Sl Cn Cm.2.2.1 Cp), (I Cm.2.2.2)] [] [], Ch.bx n0 b1 0 [(Sl Cd Cc.1 Ce), (Sl Cf Cc.2 Cg)] [] [], Ch.ro 0 (Sl Cd Cc.1 Ce) Cc.1, Ch.ro 0 (Sl Cf Cc.2 Cg) Cc.2, Ch.ro 0 (Sl Cn Cm.2.2.1 Cp) Cm.2.2.1] ∧ Md (cov []) σ6 σm, fun ((((a11, c12), (b14, (a17, c18))), ((a23, (c24, b25)), (a28, (c29, b30)))) : ((((Option Addr) × (Nat)) × ((Nat) × ((Option Addr) × (Nat)))) × (((Option Addr) × ((Nat) × (Nat))) × ((Option Addr) × ((Nat) × (Nat)))))) => fun σm => Hp S0 σ0 σm [Ch.own n0 0 (Sl (some ⟨b14, 0, none⟩) ([(Cm.1, (Cm.2.1, Cm.2.2.1, Cm.2.2.2))] : List (Int × (Int × (List Int) × Int))) 1) ([(Cm.1, (Cm.2.1, Cm.2.2.1, Cm.2.2.2))] : List (Int × (Int × (List Int) × Int))), Ch.own n0 0 (Sl a11 r8 c12) r8, Ch.bx n0 b5 0 [(.slice none 0 0), (.slice none 0 0)] [] [], Ch.bx n0 b3 0 [(I Cm.1), (I Cm.2.1), (Sl Cn Cm.2.2.1 Cp), (I Cm.2.2.2)] [] [], Ch.bx n0 b1 0 [(Sl Cd Cc.1 Ce), (Sl Cf Cc.2 Cg)] [] [], Ch.ro 0 (Sl Cd Cc.1 Ce) Cc.1, Ch.ro 0 (Sl Cf Cc.2 Cg) Cc.2, Ch.ro 0 (Sl Cn Cm.2.2.1 Cp) Cm.2.2.1] ∧ Md (cov []) σ6 σm, fun ((((a11, c12), (b14, (a17, c18))), ((a23, (c24, b25)), (a28, (c29, b30)))) : ((((Option Addr) × (Nat)) × ((Nat) × ((Option Addr) × (Nat)))) × (((Option Addr) × ((Nat) × (Nat))) × ((Option Addr) × ((Nat) × (Nat)))))) => fun σm => Hp S0 σ0 σm [Ch.own n0 n0 (Sl (some ⟨b25, 0, none⟩) ([Dn] : List Int) 1) ([Dn] : List Int), Ch.own n0 0 (Sl a11 r8 c12) r8, Ch.bx n0 b5 0 [(.slice none 0 0), (.slice none 0 0)] [] [], Ch.bx n0 b3 0 [(I Cm.1), (I Cm.2.1), (Sl Cn Cm.2.2.1 Cp), (I Cm.2.2.2)] [] [], Ch.bx n0 b1 0 [(Sl Cd Cc.1 Ce), (Sl Cf Cc.2 Cg)] [] [], Ch.ro 0 (Sl Cd Cc.1 Ce) Cc.1, Ch.ro 0 (Sl Cf Cc.2 Cg) Cc.2, Ch.ro 0 (Sl Cn Cm.2.2.1 Cp) Cm.2.2.1] ∧ Md (cov []) σ6 σm, fun ((((a11, c12), (b14, (a17, c18))), ((a23, (c24, b25)), (a28, (c29, b30)))) : ((((Option Addr) × (Nat)) × ((Nat) × ((Option Addr) × (Nat)))) × (((Option Addr) × ((Nat) × (Nat))) × ((Option Addr) × ((Nat) × (Nat)))))) => fun σm => Hp S0 σ0 σm [Ch.bx n0 b30 0 [(.slice none 0 0), (.slice none 0 0)] [] [], Ch.own n0 0 (Sl a11 r8 c12) r8, Ch.bx n0 b5 0 [(.slice none 0 0), (.slice none 0 0)] [] [], Ch.bx n0 b3 0 [(I Cm.1), (I Cm.2.1), (Sl Cn Cm.2.2.1 Cp), (I Cm.2.2.2)] [] [], Ch.bx n0 b1 0 [(Sl Cd Cc.1 Ce), (Sl Cf Cc.2 Cg)] [] [], Ch.ro 0 (Sl Cd Cc.1 Ce) Cc.1, Ch.ro 0 (Sl Cf Cc.2 Cg) Cc.2, Ch.ro 0 (Sl Cn Cm.2.2.1 Cp) Cm.2.2.1] ∧ Md (cov []) σ6 σm, fun ((((a11, c12), (b14, (a17, c18))), ((a23, (c24, b25)), (a28, (c29, b30)))) : ((((Option Addr) × (Nat)) × ((Nat) × ((Option Addr) × (Nat)))) × (((Option Addr) × ((Nat) × (Nat))) × ((Option Addr) × ((Nat) × (Nat)))))) => fun σm => Hp S0 σ0 σm [Ch.own n0 n0 (Sl (some ⟨b25, 0, none⟩) ([Dn] : List Int) 1) ([Dn] : List Int), Ch.own n0 0 (Sl (some ⟨b14, 0, none⟩) ([(Cm.1, (Cm.2.1, Cm.2.2.1, Cm.2.2.2))] : List (Int × (Int × (List Int) × Int))) 1) ([(Cm.1, (Cm.2.1, Cm.2.2.1, Cm.2.2.2))] : List (Int × (Int × (List Int) × Int))), Ch.bx n0 b5 0 [(.slice none 0 0), (.slice none 0 0)] [] [], Ch.bx n0 b3 0 [(I Cm.1), (I Cm.2.1), (Sl Cn Cm.2.2.1 Cp), (I Cm.2.2.2)] [] [], Ch.bx n0 b1 0 [(Sl Cd Cc.1 Ce), (Sl Cf Cc.2 Cg)] [] [], Ch.ro 0 (Sl Cd Cc.1 Ce) Cc.1, Ch.ro 0 (Sl Cf Cc.2 Cg) Cc.2, Ch.ro 0 (Sl Cn Cm.2.2.1 Cp) Cm.2.2.1] ∧ Md (cov []) σ6 σm, fun ((((a11, c12), (b14, (a17, c18))), ((a23, (c24, b25)), (a28, (c29, b30)))) : ((((Option Addr) × (Nat)) × ((Nat) × ((Option Addr) × (Nat)))) × (((Option Addr) × ((Nat) × (Nat))) × ((Option Addr) × ((Nat) × (Nat)))))) => fun σm => Hp S0 σ0 σm [Ch.bx n0 b30 0 [(.slice none 0 0), (.slice none 0 0)] [] [], Ch.own n0 0 (Sl (some ⟨b14, 0, none⟩) ([(Cm.1, (Cm.2.1, Cm.2.2.1, Cm.2.2.2))] : List (Int × (Int × (List Int) × Int))) 1) ([(Cm.1, (Cm.2.1, Cm.2.2.1, Cm.2.2.2))] : List (Int × (Int × (List Int) × Int))), Ch.bx n0 b5 0 [(.slice none 0 0), (.slice none 0 0)] [] [], Ch.bx n0 b3 0 [(I Cm.1), (I Cm.2.1), (Sl Cn Cm.2.2.1 Cp), (I Cm.2.2.2)] [] [], Ch.bx n0 b1 0 [(Sl Cd Cc.1 Ce), (Sl Cf Cc.2 Cg)] [] [], Ch.ro 0 (Sl Cd Cc.1 Ce) Cc.1, Ch.ro 0 (Sl Cf Cc.2 Cg) Cc.2, Ch.ro 0 (Sl Cn Cm.2.2.1 Cp) Cm.2.2.1] ∧ Md (cov []) σ6 σm, fun ((((a11, c12), (b14, (a17, c18))), ((a23, (c24, b25)), (a28, (c29, b30)))) : ((((Option Addr) × (Nat)) × ((Nat) × ((Option Addr) × (Nat)))) × (((Option Addr) × ((Nat) × (Nat))) × ((Option Addr) × ((Nat) × (Nat)))))) => fun σm => Hp S0 σ0 σm [Ch.bx n0 b30 0 [(.slice none 0 0), (.slice none 0 0)] [] [], Ch.own n0 n0 (Sl (some ⟨b25, 0, none⟩) ([Dn] : List Int) 1) ([Dn] : List Int), Ch.bx n0 b5 0 [(.slice none 0 0), (.slice none 0 0)] [] [], Ch.bx n0 b3 0 [(I Cm.1), (I Cm.2.1), (Sl Cn Cm.2.2.1 Cp), (I Cm.2.2.2)] [] [], Ch.bx n0 b1 0 [(Sl Cd Cc.1 Ce), (Sl Cf Cc.2 Cg)] [] [], Ch.ro 0 (Sl Cd Cc.1 Ce) Cc.1, Ch.ro 0 (Sl Cf Cc.2 Cg) Cc.2, Ch.ro 0 (Sl Cn Cm.2.2.1 Cp) Cm.2.2.1] ∧ Md (cov []) σ6 σm, fun ((((a11, c12), (b14, (a17, c18))), ((a23, (c24, b25)), (a28, (c29, b30)))) : ((((Option Addr) × (Nat)) × ((Nat) × ((Option Addr) × (Nat)))) × (((Option Addr) × ((Nat) × (Nat))) × ((Option Addr) × ((Nat) × (Nat)))))) => fun σm => Hp S0 σ0 σm [Ch.own n0 0 (Sl a17 xs15 c18) xs15, Ch.own n0 0 (Sl (some ⟨b14, 0, none⟩) ([(Cm.1, (Cm.2.1, Cm.2.2.1, Cm.2.2.2))] : List (Int × (Int × (List Int) × Int))) 1) ([(Cm.1, (Cm.2.1, Cm.2.2.1, Cm.2.2.2))] : List (Int × (Int × (List Int) × Int))), Ch.bx n0 b5 0 [(.slice none 0 0), (.slice none 0 0)] [] [], Ch.bx n0 b3 0 [(I Cm.1), (I Cm.2.1), (Sl Cn Cm.2.2.1 Cp), (I Cm.2.2.2)] [] [], Ch.bx n0 b1 0 [(Sl Cd Cc.1 Ce), (Sl Cf Cc.2 Cg)] [] [], Ch.ro 0 (Sl Cd Cc.1 Ce) Cc.1, Ch.ro 0 (Sl Cf Cc.2 Cg) Cc.2, Ch.ro 0 (Sl Cn Cm.2.2.1 Cp) Cm.2.2.1] ∧ Md (fun i => (cov []) i ∨ (fun b => blk (Sl a11 r8 c12) = some b) i) σ6 σm, fun ((((a11, c12), (b14, (a17, c18))), ((a23, (c24, b25)), (a28, (c29, b30)))) : ((((Option Addr) × (Nat)) × ((Nat) × ((Option Addr) × (Nat)))) × (((Option Addr) × ((Nat) × (Nat))) × ((Option Addr) × ((Nat) × (Nat)))))) => fun σm => Hp S0 σ0 σm [Ch.own n0 n0 (Sl (some ⟨b25, 0, none⟩) ([Dn] : List Int) 1) ([Dn] : List Int), Ch.own n0 0 (Sl (some ⟨b14, 0, none⟩) ([(Cm.1, (Cm.2.1, Cm.2.2.1, Cm.2.2.2))] : List (Int × (Int × (List Int) × Int))) 1) ([(Cm.1, (Cm.2.1, Cm.2.2.1, Cm.2.2.2))] : List (Int × (Int × (List Int) × Int))), Ch.own n0 0 (Sl a11 r8 c12) r8, Ch.bx n0 b5 0 [(.slice none 0 0), (.slice none 0 0)] [] [], Ch.bx n0 b3 0 [(I Cm.1), (I Cm.2.1), (Sl Cn Cm.2.2.1 Cp), (I Cm.2.2.2)] [] [], Ch.bx n0 b1 0 [(Sl Cd Cc.1 Ce), (Sl Cf Cc.2 Cg)] [] [], Ch.ro 0 (Sl Cd Cc.1 Ce) Cc.1, Ch.ro 0 (Sl Cf Cc.2 Cg) Cc.2, Ch.ro 0 (Sl Cn Cm.2.2.1 Cp) Cm.2.2.1] ∧ Md (cov []) σ6 σm, fun ((((a11, c12), (b14, (a17, c18))), ((a23, (c24, b25)), (a28, (c29, b30)))) : ((((Option Addr) × (Nat)) × ((Nat) × ((Option Addr) × (Nat)))) × (((Option Addr) × ((Nat) × (Nat))) × ((Option Addr) × ((Nat) × (Nat)))))) => fun σm => Hp S0 σ0 σm [Ch.bx n0 b30 0 [(.slice none 0 0), (.slice none 0 0)] [] [], Ch.own n0 0 (Sl (some ⟨b14, 0, none⟩) ([(Cm.1, (Cm.2.1, Cm.2.2.1, Cm.2.2.2))] : List (Int × (Int × (List Int) × Int))) 1) ([(Cm.1, (Cm.2.1, Cm.2.2.1, Cm.2.2.2))] : List (Int × (Int × (List Int) × Int))), Ch.own n0 0 (Sl a11 r8 c12) r8, Ch.bx n0 b5 0 [(.slice none 0 0), (.slice none 0 0)] [] [], Ch.bx n0 b3 0 [(I Cm.1), (I Cm.2.1), (Sl Cn Cm.2.2.1 Cp), (I Cm.2.2.2)] [] [], Ch.bx n0 b1 0 [(Sl Cd Cc.1 Ce), (Sl Cf Cc.2 Cg)] [] [], Ch.ro 0 (Sl Cd Cc.1 Ce) Cc.1, Ch.ro 0 (Sl Cf Cc.2 Cg) Cc.2, Ch.ro 0 (Sl Cn Cm.2.2.1 Cp) Cm.2.2.1] ∧ Md (cov []) σ6 σm, fun ((((a11, c12), (b14, (a17, c18))), ((a23, (c24, b25)), (a28, (c29, b30)))) : ((((Option Addr) × (Nat)) × ((Nat) × ((Option Addr) × (Nat)))) × (((Option Addr) × ((Nat) × (Nat))) × ((Option Addr) × ((Nat) × (Nat)))))) => fun σm => Hp S0 σ0 σm [Ch.bx n0 b30 0 [(.slice none 0 0), (.slice none 0 0)] [] [], Ch.own n0 n0 (Sl (some ⟨b25, 0, none⟩) ([Dn] : List Int) 1) ([Dn] : List Int), Ch.own n0 0 (Sl a11 r8 c12) r8, Ch.bx n0 b5 0 [(.slice none 0 0), (.slice none 0 0)] [] [], Ch.bx n0 b3 0 [(I Cm.1), (I Cm.2.1), (Sl Cn Cm.2.2.1 Cp), (I Cm.2.2.2)] [] [], Ch.bx n0 b1 0 [(Sl Cd Cc.1 Ce), (Sl Cf Cc.2 Cg)] [] [], Ch.ro 0 (Sl Cd Cc.1 Ce) Cc.1, Ch.ro 0 (Sl Cf Cc.2 Cg) Cc.2, Ch.ro 0 (Sl Cn Cm.2.2.1 Cp) Cm.2.2.1] ∧ Md (cov []) σ6 σm, fun ((((a11, c12), (b14, (a17, c18))), ((a23, (c24, b25)), (a28, (c29, b30)))) : ((((Option Addr) × (Nat)) × ((Nat) × ((Option Addr) × (Nat)))) × (((Option Addr) × ((Nat) × (Nat))) × ((Option Addr) × ((Nat) × (Nat)))))) => fun σm => Hp S0 σ0 σm [Ch.bx n0 b30 0 [(.slice none 0 0), (.slice none 0 0)] [] [], Ch.own n0 n0 (Sl (some ⟨b25, 0, none⟩) ([Dn] : List Int) 1) ([Dn] : List Int), Ch.own n0 0 (Sl (some ⟨b14, 0, none⟩) ([(Cm.1, (Cm.2.1, Cm.2.2.1, Cm.2.2.2))] : List (Int × (Int × (List Int) × Int))) 1) ([(Cm.1, (Cm.2.1, Cm.2.2.1, Cm.2.2.2))] : List (Int × (Int × (List Int) × Int))), Ch.bx n0 b5 0 [(.slice none 0 0), (.slice none 0 0)] [] [], Ch.bx n0 b3 0 [(I Cm.1), (I Cm.2.1), (Sl Cn Cm.2.2.1 Cp), (I Cm.2.2.2)] [] [], Ch.bx n0 b1 0 [(Sl Cd Cc.1 Ce), (Sl Cf Cc.2 Cg)] [] [], Ch.ro 0 (Sl Cd Cc.1 Ce) Cc.1, Ch.ro 0 (Sl Cf Cc.2 Cg) Cc.2, Ch.ro 0 (Sl Cn Cm.2.2.1 Cp) Cm.2.2.1] ∧ Md (cov []) σ6 σm, fun ((((a11, c12), (b14, (a17, c18))), ((a23, (c24, b25)), (a28, (c29, b30)))) : ((((Option Addr) × (Nat)) × ((Nat) × ((Option Addr) × (Nat)))) × (((Option Addr) × ((Nat) × (Nat))) × ((Option Addr) × ((Nat) × (Nat)))))) => fun σm => Hp S0 σ0 σm [Ch.own n0 n0 (Sl a23 r20 c24) r20, Ch.own n0 0 (Sl a17 xs15 c18) xs15, Ch.own n0 0 (Sl (some ⟨b14, 0, none⟩) ([(Cm.1, (Cm.2.1, Cm.2.2.1, Cm.2.2.2))] : List (Int × (Int × (List Int) × Int))) 1) ([(Cm.1, (Cm.2.1, Cm.2.2.1, Cm.2.2.2))] : List (Int × (Int × (List Int) × Int))), Ch.bx n0 b5 0 [(.slice none 0 0), (.slice none 0 0)] [] [], Ch.bx n0 b3 0 [(I Cm.1), (I Cm.2.1), (Sl Cn Cm.2.2.1 Cp), (I Cm.2.2.2)] [] [], Ch.bx n0 b1 0 [(Sl Cd Cc.1 Ce), (Sl Cf Cc.2 Cg)] [] [], Ch.ro 0 (Sl Cd Cc.1 Ce) Cc.1, Ch.ro 0 (Sl Cf Cc.2 Cg) Cc.2, Ch.ro 0 (Sl Cn Cm.2.2.1 Cp) Cm.2.2.1] ∧ Md (fun i => (cov []) i ∨ (fun b => blk (Sl a11 r8 c12) = some b) i) σ6 σm, fun ((((a11, c12), (b14, (a17, c18))), ((a23, (c24, b25)), (a28, (c29, b30)))) : ((((Option Addr) × (Nat)) × ((Nat) × ((Option Addr) × (Nat)))) × (((Option Addr) × ((Nat) × (Nat))) × ((Option Addr) × ((Nat) × (Nat)))))) => fun σm => Hp S0 σ0 σm [Ch.own n0 n0 (Sl (some ⟨b25, 0, none⟩) ([Dn] : List Int) 1) ([Dn] : List Int), Ch.own n0 0 (Sl a17 xs15 c18) xs15, Ch.own n0 0 (Sl (some ⟨b14, 0, none⟩) ([(Cm.1, (Cm.2.1, Cm.2.2.1, Cm.2.2.2))] : List (Int × (Int × (List Int) × Int))) 1) ([(Cm.1, (Cm.2.1, Cm.2.2.1, Cm.2.2.2))] : List (Int × (Int × (List Int) × Int))), Ch.bx n0 b5 0 [(.slice none 0 0), (.slice none 0 0)] [] [], Ch.bx n0 b3 0 [(I Cm.1), (I Cm.2.1), (Sl Cn Cm.2.2.1 Cp), (I Cm.2.2.2)] [] [], Ch.bx n0 b1 0 [(Sl Cd Cc.1 Ce), (Sl Cf Cc.2 Cg)] [] [], Ch.ro 0 (Sl Cd Cc.1 Ce) Cc.1, Ch.ro 0 (Sl Cf Cc.2 Cg) Cc.2, Ch.ro 0 (Sl Cn Cm.2.2.1 Cp) Cm.2.2.1] ∧ Md (fun i => (cov []) i ∨ (fun b => blk (Sl a11 r8 c12) = some b) i) σ6 σm, fun ((((a11, c12), (b14, (a17, c18))), ((a23, (c24, b25)), (a28, (c29, b30)))) : ((((Option Addr) × (Nat)) × ((Nat) × ((Option Addr) × (Nat)))) × (((Option Addr) × ((Nat) × (Nat))) × ((Option Addr) × ((Nat) × (Nat)))))) => fun σm => Hp S0 σ0 σm [Ch.bx n0 b30 0 [(.slice none 0 0), (.slice none 0 0)] [] [], Ch.own n0 0 (Sl a17 xs15 c18) xs15, Ch.own n0 0 (Sl (some ⟨b14, 0, none⟩) ([(Cm.1, (Cm.2.1, Cm.2.2.1, Cm.2.2.2))] : List (Int × (Int × (List Int) × Int))) 1) ([(Cm.1, (Cm.2.1, Cm.2.2.1, Cm.2.2.2))] : List (Int × (Int × (List Int) × Int))), Ch.bx n0 b5 0 [(.slice none 0 0), (.slice none 0 0)] [] [], Ch.bx n0 b3 0 [(I Cm.1), (I Cm.2.1), (Sl Cn Cm.2.2.1 Cp), (I Cm.2.2.2)] [] [], Ch.bx n0 b1 0 [(Sl Cd Cc.1 Ce), (Sl Cf Cc.2 Cg)] [] [], Ch.ro 0 (Sl Cd Cc.1 Ce) Cc.1, Ch.ro 0 (Sl Cf Cc.2 Cg) Cc.2, Ch.ro 0 (Sl Cn Cm.2.2.1 Cp) Cm.2.2.1] ∧ Md (fun i => (cov []) i ∨ (fun b => blk (Sl a11 r8 c12) = some b) i) σ6 σm, fun ((((a11, c12), (b14, (a17, c18))), ((a23, (c24, b25)), (a28, (c29, b30)))) : ((((Option Addr) × (Nat)) × ((Nat) × ((Option Addr) × (Nat)))) × (((Option Addr) × ((Nat) × (Nat))) × ((Option Addr) × ((Nat) × (Nat)))))) => fun σm => Hp S0 σ0 σm [Ch.bx n0 b30 0 [(.slice none 0 0), (.slice none 0 0)] [] [], Ch.own n0 n0 (Sl (some ⟨b25, 0, none⟩) ([Dn] : List Int) 1) ([Dn] : List Int), Ch.own n0 0 (Sl (some ⟨b14, 0, none⟩) ([(Cm.1, (Cm.2.1, Cm.2.2.1, Cm.2.2.2))] : List (Int × (Int × (List Int) × Int))) 1) ([(Cm.1, (Cm.2.1, Cm.2.2.1, Cm.2.2.2))] : List (Int × (Int × (List Int) × Int))), Ch.own n0 0 (Sl a11 r8 c12) r8, Ch.bx n0 b5 0 [(.slice none 0 0), (.slice none 0 0)] [] [], Ch.bx n0 b3 0 [(I Cm.1), (I Cm.2.1), (Sl Cn Cm.2.2.1 Cp), (I Cm.2.2.2)] [] [], Ch.bx n0 b1 0 [(Sl Cd Cc.1 Ce), (Sl Cf Cc.2 Cg)] [] [], Ch.ro 0 (Sl Cd Cc.1 Ce) Cc.1, Ch.ro 0 (Sl Cf Cc.2 Cg) Cc.2, Ch.ro 0 (Sl Cn Cm.2.2.1 Cp) Cm.2.2.1] ∧ Md (cov []) σ6 σm, fun ((((a11, c12), (b14, (a17, c18))), ((a23, (c24, b25)), (a28, (c29, b30)))) : ((((Option Addr) × (Nat)) × ((Nat) × ((Option Addr) × (Nat)))) × (((Option Addr) × ((Nat) × (Nat))) × ((Option Addr) × ((Nat) × (Nat)))))) => fun σm => Hp S0 σ0 σm [Ch.own n0 n0 (Sl (some ⟨b25, 0, none⟩) ([Dn] : List Int) 1) ([Dn] : List Int), Ch.own n0 n0 (Sl a23 r20 c24) r20, Ch.own n0 0 (Sl a17 xs15 c18) xs15, Ch.own n0 0 (Sl (some ⟨b14, 0, none⟩) ([(Cm.1, (Cm.2.1, Cm.2.2.1, Cm.2.2.2))] : List (Int × (Int × (List Int) × Int))) 1) ([(Cm.1, (Cm.2.1, Cm.2.2.1, Cm.2.2.2))] : List (Int × (Int × (List Int) × Int))), Ch.bx n0 b5 0 [(.slice none 0 0), (.slice none 0 0)] [] [], Ch.bx n0 b3 0 [(I Cm.1), (I Cm.2.1), (Sl Cn Cm.2.2.1 Cp), (I Cm.2.2.2)] [] [], Ch.bx n0 b1 0 [(Sl Cd Cc.1 Ce), (Sl Cf Cc.2 Cg)] [] [], Ch.ro 0 (Sl Cd Cc.1 Ce) Cc.1, Ch.ro 0 (Sl Cf Cc.2 Cg) Cc.2, Ch.ro 0 (Sl Cn Cm.2.2.1 Cp) Cm.2.2.1] ∧ Md (fun i => (cov []) i ∨ (fun b => blk (Sl a11 r8 c12) = some b) i) σ6 σm, fun ((((a11, c12), (b14, (a17, c18))), ((a23, (c24, b25)), (a28, (c29, b30)))) : ((((Option Addr) × (Nat)) × ((Nat) × ((Option Addr) × (Nat)))) × (((Option Addr) × ((Nat) × (Nat))) × ((Option Addr) × ((Nat) × (Nat)))))) => fun σm => Hp S0 σ0 σm [Ch.bx n0 b30 0 [(.slice none 0 0), (.slice none 0 0)] [] [], Ch.own n0 n0 (Sl a23 r20 c24) r20, Ch.own n0 0 (Sl a17 xs15 c18) xs15, Ch.own n0 0 (Sl (some ⟨b14, 0, none⟩) ([(Cm.1, (Cm.2.1, Cm.2.2.1, Cm.2.2.2))] : List (Int × (Int × (List Int) × Int))) 1) ([(Cm.1, (Cm.2.1, Cm.2.2.1, Cm.2.2.2))] : List (Int × (Int × (List Int) × Int))), Ch.bx n0 b5 0 [(.slice none 0 0), (.slice none 0 0)] [] [], Ch.bx n0 b3 0 [(I Cm.1), (I Cm.2.1), (Sl Cn Cm.2.2.1 Cp), (I Cm.2.2.2)] [] [], Ch.bx n0 b1 0 [(Sl Cd Cc.1 Ce), (Sl Cf Cc.2 Cg)] [] [], Ch.ro 0 (Sl Cd Cc.1 Ce) Cc.1, Ch.ro 0 (Sl Cf Cc.2 Cg) Cc.2, Ch.ro 0 (Sl Cn Cm.2.2.1 Cp) Cm.2.2.1] ∧ Md (fun i => (cov []) i ∨ (fun b => blk (Sl a11 r8 c12) = some b) i) σ6 σm, fun ((((a11, c12), (b14, (a17, c18))), ((a23, (c24, b25)), (a28, (c29, b30)))) : ((((Option Addr) × (Nat)) × ((Nat) × ((Option Addr) × (Nat)))) × (((Option Addr) × ((Nat) × (Nat))) × ((Option Addr) × ((Nat) × (Nat)))))) => fun σm => Hp S0 σ0 σm [Ch.bx n0 b30 0 [(.slice none 0 0), (.slice none 0 0)] [] [], Ch.own n0 n0 (Sl (some ⟨b25, 0, none⟩) ([Dn] : List Int) 1) ([Dn] : List Int), Ch.own n0 0 (Sl a17 xs15 c18) xs15, Ch.own n0 0 (Sl (some ⟨b14, 0, none⟩) ([(Cm.1, (Cm.2.1, Cm.2.2.1, Cm.2.2.2))] : List (Int × (Int × (List Int) × Int))) 1) ([(Cm.1, (Cm.2.1, Cm.2.2.1, Cm.2.2.2))] : List (Int × (Int × (List Int) × Int))), Ch.bx n0 b5 0 [(.slice none 0 0), (.slice none 0 0)] [] [], Ch.bx n0 b3 0 [(I Cm.1), (I Cm.2.1), (Sl Cn Cm.2.2.1 Cp), (I Cm.2.2.2)] [] [], Ch.bx n0 b1 0 [(Sl Cd Cc.1 Ce), (Sl Cf Cc.2 Cg)] [] [], Ch.ro 0 (Sl Cd Cc.1 Ce) Cc.1, Ch.ro 0 (Sl Cf Cc.2 Cg) Cc.2, Ch.ro 0 (Sl Cn Cm.2.2.1 Cp) Cm.2.2.1] ∧ Md (fun i => (cov []) i ∨ (fun b => blk (Sl a11 r8 c12) = some b) i) σ6 σm, fun ((((a11, c12), (b14, (a17, c18))), ((a23, (c24, b25)), (a28, (c29, b30)))) : ((((Option Addr) × (Nat)) × ((Nat) × ((Option Addr) × (Nat)))) × (((Option Addr) × ((Nat) × (Nat))) × ((Option Addr) × ((Nat) × (Nat)))))) => fun σm => Hp S0 σ0 σm [Ch.own n0 n0 (Sl a28 xs26 c29) xs26, Ch.own n0 n0 (Sl (some ⟨b25, 0, none⟩) ([Dn] : List Int) 1) ([Dn] : List Int), Ch.own n0 0 (Sl a17 xs15 c18) xs15, Ch.own n0 0 (Sl (some ⟨b14, 0, none⟩) ([(Cm.1, (Cm.2.1, Cm.2.2.1, Cm.2.2.2))] : List (Int × (Int × (List Int) × Int))) 1) ([(Cm.1, (Cm.2.1, Cm.2.2.1, Cm.2.2.2))] : List (Int × (Int × (List Int) × Int))), Ch.bx n0 b5 0 [(.slice none 0 0), (.slice none 0 0)] [] [], Ch.bx n0 b3 0 [(I Cm.1), (I Cm.2.1), (Sl Cn Cm.2.2.1 Cp), (I Cm.2.2.2)] [] [], Ch.bx n0 b1 0 [(Sl Cd Cc.1 Ce), (Sl Cf Cc.2 Cg)] [] [], Ch.ro 0 (Sl Cd Cc.1 Ce) Cc.1, Ch.ro 0 (Sl Cf Cc.2 Cg) Cc.2, Ch.ro 0 (Sl Cn Cm.2.2.1 Cp) Cm.2.2.1] ∧ Md (fun i => (fun i => (cov []) i ∨ (fun b => blk (Sl a11 r8 c12) = some b) i) i ∨ (fun b => blk (Sl a23 r20 c24) = some b) i) σ6 σm, fun ((((a11, c12), (b14, (a17, c18))), ((a23, (c24, b25)), (a28, (c29, b30)))) : ((((Option Addr) × (Nat)) × ((Nat) × ((Option Addr) × (Nat)))) × (((Option Addr) × ((Nat) × (Nat))) × ((Option Addr) × ((Nat) × (Nat)))))) => fun σm => Hp S0 σ0 σm [Ch.bx n0 b30 0 [(.slice none 0 0), (.slice none 0 0)] [] [], Ch.own n0 n0 (Sl (some ⟨b25, 0, none⟩) ([Dn] : List Int) 1) ([Dn] : List Int), Ch.own n0 n0 (Sl a23 r20 c24) r20, Ch.own n0 0 (Sl a17 xs15 c18) xs15, Ch.own n0 0 (Sl (some ⟨b14, 0, none⟩) ([(Cm.1, (Cm.2.1, Cm.2.2.1, Cm.2.2.2))] : List (Int × (Int × (List Int) × Int))) 1) ([(Cm.1, (Cm.2.1, Cm.2.2.1, Cm.2.2.2))] : List (Int × (Int × (List Int) × Int))), Ch.bx n0 b5 0 [(.slice none 0 0), (.slice none 0 0)] [] [], Ch.bx n0 b3 0 [(I Cm.1), (I Cm.2.1), (Sl Cn Cm.2.2.1 Cp), (I Cm.2.2.2)] [] [], Ch.bx n0 b1 0 [(Sl Cd Cc.1 Ce), (Sl Cf Cc.2 Cg)] [] [], Ch.ro 0 (Sl Cd Cc.1 Ce) Cc.1, Ch.ro 0 (Sl Cf Cc.2 Cg) Cc.2, Ch.ro 0 (Sl Cn Cm.2.2.1 Cp) Cm.2.2.1] ∧ Md (fun i => (cov []) i ∨ (fun b => blk (Sl a11 r8 c12) = some b) i) σ6 σm, fun ((((a11, c12), (b14, (a17, c18))), ((a23, (c24, b25)), (a28, (c29, b30)))) : ((((Option Addr) × (Nat)) × ((Nat) × ((Option Addr) × (Nat)))) × (((Option Addr) × ((Nat) × (Nat))) × ((Option Addr) × ((Nat) × (Nat)))))) => fun σm => Hp S0 σ0 σm [Ch.bx n0 b30 0 [(.slice none 0 0), (.slice none 0 0)] [] [], Ch.own n0 n0 (Sl a28 xs26 c29) xs26, Ch.own n0 n0 (Sl (some ⟨b25, 0, none⟩) ([Dn] : List Int) 1) ([Dn] : List Int), Ch.own n0 0 (Sl a17 xs15 c18) xs15, Ch.own n0 0 (Sl (some ⟨b14, 0, none⟩) ([(Cm.1, (Cm.2.1, Cm.2.2.1, Cm.2.2.2))] : List (Int × (Int × (List Int) × Int))) 1) ([(Cm.1, (Cm.2.1, Cm.2.2.1, Cm.2.2.2))] : List (Int × (Int × (List Int) × Int))), Ch.bx n0 b5 0 [(.slice none 0 0), (.slice none 0 0)] [] [], Ch.bx n0 b3 0 [(I Cm.1), (I Cm.2.1), (Sl Cn Cm.2.2.1 Cp), (I Cm.2.2.2)] [] [], Ch.bx n0 b1 0 [(Sl Cd Cc.1 Ce), (Sl Cf Cc.2 Cg)] [] [], Ch.ro 0 (Sl Cd Cc.1 Ce) Cc.1, Ch.ro 0 (Sl Cf Cc.2 Cg) Cc.2, Ch.ro 0 (Sl Cn Cm.2.2.1 Cp) Cm.2.2.1] ∧ Md (fun i => (fun i => (cov []) i ∨ (fun b => blk (Sl a11 r8 c12) = some b) i) i ∨ (fun b => blk (Sl a23 r20 c24) = some b) i) σ6 σm] [fun ((((a11, c12), (b14, (a17, c18))), ((a23, (c24, b25)), (a28, (c29, b30)))) : ((((Option Addr) × (Nat)) × ((Nat) × ((Option Addr) × (Nat)))) × (((Option Addr) × ((Nat) × (Nat))) × ((Option Addr) × ((Nat) × (Nat)))))) => (pt b1 0), fun ((((a11, c12), (b14, (a17, c18))), ((a23, (c24, b25)), (a28, (c29, b30)))) : ((((Option Addr) × (Nat)) × ((Nat) × ((Option Addr) × (Nat)))) × (((Option Addr) × ((Nat) × (Nat))) × ((Option Addr) × ((Nat) × (Nat)))))) => (Sl Cd Cc.1 Ce), fun ((((a11, c12), (b14, (a17, c18))), ((a23, (c24, b25)), (a28, (c29, b30)))) : ((((Option Addr) × (Nat)) × ((Nat) × ((Option Addr) × (Nat)))) × (((Option Addr) × ((Nat) × (Nat))) × ((Option Addr) × ((Nat) × (Nat)))))) => (Sl a11 r8 c12), fun ((((a11, c12), (b14, (a17, c18))), ((a23, (c24, b25)), (a28, (c29, b30)))) : ((((Option Addr) × (Nat)) × ((Nat) × ((Option Addr) × (Nat)))) × (((Option Addr) × ((Nat) × (Nat))) × ((Option Addr) × ((Nat) × (Nat)))))) => (.agg #[(I Cm.1), (I Cm.2.1), (Sl Cn Cm.2.2.1 Cp), (I Cm.2.2.2)]), fun ((((a11, c12), (b14, (a17, c18))), ((a23, (c24, b25)), (a28, (c29, b30)))) : ((((Option Addr) × (Nat)) × ((Nat) × ((Option Addr) × (Nat)))) × (((Option Addr) × ((Nat) × (Nat))) × ((Option Addr) × ((Nat) × (Nat)))))) => (Sl (some ⟨b14, 0, none⟩) ([(Cm.1, (Cm.2.1, Cm.2.2.1, Cm.2.2.2))] : List (Int × (Int × (List Int) × Int))) 1), fun ((((a11, c12), (b14, (a17, c18))), ((a23, (c24, b25)), (a28, (c29, b30)))) : ((((Option Addr) × (Nat)) × ((Nat) × ((Option Addr) × (Nat)))) × (((Option Addr) × ((Nat) × (Nat))) × ((Option Addr) × ((Nat) × (Nat)))))) => (Sl a17 xs15 c18), fun ((((a11, c12), (b14, (a17, c18))), ((a23, (c24, b25)), (a28, (c29, b30)))) : ((((Option Addr) × (Nat)) × ((Nat) × ((Option Addr) × (Nat)))) × (((Option Addr) × ((Nat) × (Nat))) × ((Option Addr) × ((Nat) × (Nat)))))) => (pt b1 1), fun ((((a11, c12), (b14, (a17, c18))), ((a23, (c24, b25)), (a28, (c29, b30)))) : ((((Option Addr) × (Nat)) × ((Nat) × ((Option Addr) × (Nat)))) × (((Option Addr) × ((Nat) × (Nat))) × ((Option Addr) × ((Nat) × (Nat)))))) => (Sl Cf Cc.2 Cg), fun ((((a11, c12), (b14, (a17, c18))), ((a23, (c24, b25)), (a28, (c29, b30)))) : ((((Option Addr) × (Nat)) × ((Nat) × ((Option Addr) × (Nat)))) × (((Option Addr) × ((Nat) × (Nat))) × ((Option Addr) × ((Nat) × (Nat)))))) => (Sl a23 r20 c24), fun ((((a11, c12), (b14, (a17, c18))), ((a23, (c24, b25)), (a28, (c29, b30)))) : ((((Option Addr) × (Nat)) × ((Nat) × ((Option Addr) × (Nat)))) × (((Option Addr) × ((Nat) × (Nat))) × ((Option Addr) × ((Nat) × (Nat)))))) => (I Dn), fun ((((a11, c12), (b14, (a17, c18))), ((a23, (c24, b25)), (a28, (c29, b30)))) : ((((Option Addr) × (Nat)) × ((Nat) × ((Option Addr) × (Nat)))) × (((Option Addr) × ((Nat) × (Nat))) × ((Option Addr) × ((Nat) × (Nat)))))) => (Sl (some ⟨b25, 0, none⟩) ([Dn] : List Int) 1), fun ((((a11, c12), (b14, (a17, c18))), ((a23, (c24, b25)), (a28, (c29, b30)))) : ((((Option Addr) × (Nat)) × ((Nat) × ((Option Addr) × (Nat)))) × (((Option Addr) × ((Nat) × (Nat))) × ((Option Addr) × ((Nat) × (Nat)))))) => (Sl a28 xs26 c29), fun ((((a11, c12), (b14, (a17, c18))), ((a23, (c24, b25)), (a28, (c29, b30)))) : ((((Option Addr) × (Nat)) × ((Nat) × ((Option Addr) × (Nat)))) × (((Option Addr) × ((Nat) × (Nat))) × ((Option Addr) × ((Nat) × (Nat)))))) => (.agg #[(Sl a17 xs15 c18), (Sl a28 xs26 c29)]), fun ((((a11, c12), (b14, (a17, c18))), ((a23, (c24, b25)), (a28, (c29, b30)))) : ((((Option Addr) × (Nat)) × ((Nat) × ((Option Addr) × (Nat)))) × (((Option Addr) × ((Nat) × (Nat))) × ((Option Addr) × ((Nat) × (Nat)))))) => (pt b30 0)] (((none, 0), (0, (none, 0))), ((none, (0, 0)), (none, (0, 0)))) (by kernel_rfl) (by kernel_rfl) ?_ ?_ ?_
 ·intro σm m0
  exact ⟨H.grow (m0.mono fun _ h => h.elim), m0⟩
 ·refine ac rfl (by
    intro k; rintro ⟨⟨⟨a11, c12⟩, ⟨b14, ⟨a17, c18⟩⟩⟩, ⟨⟨a23, ⟨c24, b25⟩⟩, ⟨a28, ⟨c29, b30⟩⟩⟩⟩ ρ σm hJ hoff hdep
    have e3 := look_off (N := 31) (hoff 3 rfl) rfl
    exact dp_v (v := (pt b1 0)) wn (rv_fieldAddr (off := 0) (ft := 23) Try.underlying26 rfl ti23 rfl e3) rfl hJ) ?_
  refine all_cons (by
    refine ⟨?_, ?_⟩
    ·rintro ⟨⟨⟨a11, c12⟩, ⟨b14, ⟨a17, c18⟩⟩⟩, ⟨⟨a23, ⟨c24, b25⟩⟩, ⟨a28, ⟨c29, b30⟩⟩⟩⟩ ρ σm hJ hoff hdep
     have e9 := hdep 0 rfl rfl 9 rfl
     obtain ⟨H, m⟩ := id hJ
     have hc7 := H.cell (u := (Sl Cd Cc.1 Ce)) (o' := 0) 2 0 rfl rfl rfl
     exact dp_v (v := (Sl Cd Cc.1 Ce)) wn (rv_load1 Try.underlying23 rfl e9 hc7) rfl hJ
    refine ⟨?_, ?_⟩
    ·rintro ⟨⟨⟨a11, c12⟩, ⟨b14, ⟨a17, c18⟩⟩⟩, ⟨⟨a23, ⟨c24, b25⟩⟩, ⟨a28, ⟨c29, b30⟩⟩⟩⟩ ρ σm hJ hoff hdep
     have e9 := hdep 0 rfl rfl 9 rfl
     obtain ⟨H, m⟩ := id hJ
     have hc7 := H.cell (u := (Sl Cd Cc.1 Ce)) (o' := 0) 3 0 rfl rfl rfl
     exact dp_v (v := (Sl Cd Cc.1 Ce)) wn (rv_load1 Try.underlying23 rfl e9 hc7) rfl hJ
    refine ⟨?_, ?_⟩
    ·rintro ⟨⟨⟨a11, c12⟩, ⟨b14, ⟨a17, c18⟩⟩⟩, ⟨⟨a23, ⟨c24, b25⟩⟩, ⟨a28, ⟨c29, b30⟩⟩⟩⟩ ρ σm hJ hoff hdep
     have e9 := hdep 0 rfl rfl 9 rfl
     obtain ⟨H, m⟩ := id hJ
     have hc7 := H.cell (u := (Sl Cd Cc.1 Ce)) (o' := 0) 3 0 rfl rfl rfl
     exact dp_v (v := (Sl Cd Cc.1 Ce)) wn (rv_load1 Try.underlying23 rfl e9 hc7) rfl hJ
    refine ⟨?_, ?_⟩
    ·rintro ⟨⟨⟨a11, c12⟩, ⟨b14, ⟨a17, c18⟩⟩⟩, ⟨⟨a23, ⟨c24, b25⟩⟩, ⟨a28, ⟨c29, b30⟩⟩⟩⟩ ρ σm hJ hoff hdep
     have e9 := hdep 0 rfl rfl 9 rfl
     obtain ⟨H, m⟩ := id hJ
     have hc7 := H.cell (u := (Sl Cd Cc.1 Ce)) (o' := 0) 3 0 rfl rfl rfl
     exact dp_v (v := (Sl Cd Cc.1 Ce)) wn (rv_load1 Try.underlying23 rfl e9 hc7) rfl hJ
    refine ⟨?_, ?_⟩
    ·rintro ⟨⟨⟨a11, c12⟩, ⟨b14, ⟨a17, c18⟩⟩⟩, ⟨⟨a23, ⟨c24, b25⟩⟩, ⟨a28, ⟨c29, b30⟩⟩⟩⟩ ρ σm hJ hoff hdep
     have e9 := hdep 0 rfl rfl 9 rfl
     obtain ⟨H, m⟩ := id hJ
     have hc7 := H.cell (u := (Sl Cd Cc.1 Ce)) (o' := 0) 4 0 rfl rfl rfl
     exact dp_v (v := (Sl Cd Cc.1 Ce)) wn (rv_load1 Try.underlying23 rfl e9 hc7) rfl hJ
    refine ⟨?_, ?_⟩
    ·rintro ⟨⟨⟨a11, c12⟩, ⟨b14, ⟨a17, c18⟩⟩⟩, ⟨⟨a23, ⟨c24, b25⟩⟩, ⟨a28, ⟨c29, b30⟩⟩⟩⟩ ρ σm hJ hoff hdep
     have e9 := hdep 0 rfl rfl 9 rfl
     obtain ⟨H, m⟩ := id hJ
     have hc7 := H.cell (u := (Sl Cd Cc.1 Ce)) (o' := 0) 4 0 rfl rfl rfl
     exact dp_v (v := (Sl Cd Cc.1 Ce)) wn (rv_load1 Try.underlying23 rfl e9 hc7) rfl hJ
    refine ⟨?_, ?_⟩
    ·rintro ⟨⟨⟨a11, c12⟩, ⟨b14, ⟨a17, c18⟩⟩⟩, ⟨⟨a23, ⟨c24, b25⟩⟩, ⟨a28, ⟨c29, b30⟩⟩⟩⟩ ρ σm hJ hoff hdep
     have e9 := hdep 0 rfl rfl 9 rfl
     obtain ⟨H, m⟩ := id hJ
     have hc7 := H.cell (u := (Sl Cd Cc.1 Ce)) (o' := 0) 4 0 rfl rfl rfl
     exact dp_v (v := (Sl Cd Cc.1 Ce)) wn (rv_load1 Try.underlying23 rfl e9 hc7) rfl hJ
    refine ⟨?_, ?_⟩
    ·rintro ⟨⟨⟨a11, c12⟩, ⟨b14, ⟨a17, c18⟩⟩⟩, ⟨⟨a23, ⟨c24, b25⟩⟩, ⟨a28, ⟨c29, b30⟩⟩⟩⟩ ρ σm hJ hoff hdep
     have e9 := hdep 0 rfl rfl 9 rfl
     obtain ⟨H, m⟩ := id hJ
     have hc7 := H.cell (u := (Sl Cd Cc.1 Ce)) (o' := 0) 5 0 rfl rfl rfl
     exact dp_v (v := (Sl Cd Cc.1 Ce)) wn (rv_load1 Try.underlying23 rfl e9 hc7) rfl hJ
    trivial) ?_
  refine all_cons (by
    refine ⟨?_, ?_⟩
    ·rintro ⟨⟨⟨a11, c12⟩, ⟨b14, ⟨a17, c18⟩⟩⟩, ⟨⟨a23, ⟨c24, b25⟩⟩, ⟨a28, ⟨c29, b30⟩⟩⟩⟩ ρ σm hJ hoff hdep
     have e10 : look 31 ρ 10 = (Sl Cd Cc.1 Ce) := hdep 1 rfl rfl 10 rfl
     obtain ⟨H, m⟩ := id hJ
     refine dp_cx wn (cx_call hc10 (ent_f hc10.fn (by show [look 31 ρ 10] = _; rw [e10])) hn0 (H.sel' [3, 0, 1, 2, 3, 4, 5] rfl rfl : Hp S0 σ0 _ ([_] ++ _))) ?_
     rintro _ σq ⟨_, ⟨a11x, c12x, rfl, rfl⟩, H2, m2⟩
     exact ⟨_, (((a11x, c12x), (b14, (a17, c18))), ((a23, (c24, b25)), (a28, (c29, b30)))), rfl, rfl, ⟨H2.sel' [0, 1, 2, 3, 4, 5, 6] rfl rfl, m.comp0 (m2.mono (fun i h => by simp [cov, Ch.ro] at h))⟩, stab [0, 1, 3, 4, 6, 7, 9, 10, 13] (by kernel_rfl) ⟨rfl, rfl, rfl, rfl, rfl, rfl, rfl, rfl, rfl, trivial⟩⟩
    refine ⟨?_, ?_⟩
    ·rintro ⟨⟨⟨a11, c12⟩, ⟨b14, ⟨a17, c18⟩⟩⟩, ⟨⟨a23, ⟨c24, b25⟩⟩, ⟨a28, ⟨c29, b30⟩⟩⟩⟩ ρ σm hJ hoff hdep
     have e10 : look 31 ρ 10 = (Sl Cd Cc.1 Ce) := hdep 1 rfl rfl 10 rfl
     obtain ⟨H, m⟩ := id hJ
     refine dp_cx wn (cx_call hc10 (ent_f hc10.fn (by show [look 31 ρ 10] = _; rw [e10])) hn0 (H.sel' [4, 0, 1, 2, 3, 4, 5, 6] rfl rfl : Hp S0 σ0 _ ([_] ++ _))) ?_
     rintro _ σq ⟨_, ⟨a11x, c12x, rfl, rfl⟩, H2, m2⟩
     exact ⟨_, (((a11x, c12x), (b14, (a17, c18))), ((a23, (c24, b25)), (a28, (c29, b30)))), rfl, rfl, ⟨H2.sel' [1, 0, 2, 3, 4, 5, 6, 7] rfl rfl, m.comp0 (m2.mono (fun i h => by simp [cov, Ch.ro] at h))⟩, stab [0, 1, 3, 4, 6, 7, 9, 10, 13] (by kernel_rfl) ⟨rfl, rfl, rfl, rfl, rfl, rfl, rfl, rfl, rfl, trivial⟩⟩
    refine ⟨?_, ?_⟩
    ·rintro ⟨⟨⟨a11, c12⟩, ⟨b14, ⟨a17, c18⟩⟩⟩, ⟨⟨a23, ⟨c24, b25⟩⟩, ⟨a28, ⟨c29, b30⟩⟩⟩⟩ ρ σm hJ hoff hdep
     have e10 : look 31 ρ 10 = (Sl Cd Cc.1 Ce) := hdep 1 rfl rfl 10 rfl
     obtain ⟨H, m⟩ := id hJ
     refine dp_cx wn (cx_call hc10 (ent_f hc10.fn (by show [look 31 ρ 10] = _; rw [e10])) hn0 (H.sel' [4, 0, 1, 2, 3, 4, 5, 6] rfl rfl : Hp S0 σ0 _ ([_] ++ _))) ?_
     rintro _ σq ⟨_, ⟨a11x, c12x, rfl, rfl⟩, H2, m2⟩
     exact ⟨_, (((a11x, c12x), (b14, (a17, c18))), ((a23, (c24, b25)), (a28, (c29, b30)))), rfl, rfl, ⟨H2.sel' [1, 0, 2, 3, 4, 5, 6, 7] rfl rfl, m.comp0 (m2.mono (fun i h => by simp [cov, Ch.ro] at h))⟩, stab [0, 1, 3, 4, 6, 7, 9, 10, 13] (by kernel_rfl) ⟨rfl, rfl, rfl, rfl, rfl, rfl, rfl, rfl, rfl, trivial⟩⟩
    refine ⟨?_, ?_⟩
    ·rintro ⟨⟨⟨a11, c12⟩, ⟨b14, ⟨a17, c18⟩⟩⟩, ⟨⟨a23, ⟨c24, b25⟩⟩, ⟨a28, ⟨c29, b30⟩⟩⟩⟩ ρ σm hJ hoff hdep
     have e10 : look 31 ρ 10 = (Sl Cd Cc.1 Ce) := hdep 1 rfl rfl 10 rfl
     obtain ⟨H, m⟩ := id hJ
     refine dp_cx wn (cx_call hc10 (ent_f hc10.fn (by show [look 31 ρ 10] = _; rw [e10])) hn0 (H.sel' [4, 0, 1, 2, 3, 4, 5, 6] rfl rfl : Hp S0 σ0 _ ([_] ++ _))) ?_
     rintro _ σq ⟨_, ⟨a11x, c12x, rfl, rfl⟩, H2, m2⟩
     exact ⟨_, (((a11x, c12x), (b14, (a17, c18))), ((a23, (c24, b25)), (a28, (c29, b30)))), rfl, rfl, ⟨H2.sel' [1, 0, 2, 3, 4, 5, 6, 7] rfl rfl, m.comp0 (m2.mono (fun i h => by simp [cov, Ch.ro] at h))⟩, stab [0, 1, 3, 4, 6, 7, 9, 10, 13] (by kernel_rfl) ⟨rfl, rfl, rfl, rfl, rfl, rfl, rfl, rfl, rfl, trivial⟩⟩
    refine ⟨?_, ?_⟩
    ·rintro ⟨⟨⟨a11, c12⟩, ⟨b14, ⟨a17, c18⟩⟩⟩, ⟨⟨a23, ⟨c24, b25⟩⟩, ⟨a28, ⟨c29, b30⟩⟩⟩⟩ ρ σm hJ hoff hdep
     have e10 : look 31 ρ 10 = (Sl Cd Cc.1 Ce) := hdep 1 rfl rfl 10 rfl
     obtain ⟨H, m⟩ := id hJ
     refine dp_cx wn (cx_call hc10 (ent_f hc10.fn (by show [look 31 ρ 10] = _; rw [e10])) hn0 (H.sel' [5, 0, 1, 2, 3, 4, 5, 6, 7] rfl rfl : Hp S0 σ0 _ ([_] ++ _))) ?_
     rintro _ σq ⟨_, ⟨a11x, c12x, rfl, rfl⟩, H2, m2⟩
     exact ⟨_, (((a11x, c12x), (b14, (a17, c18))), ((a23, (c24, b25)), (a28, (c29, b30)))), rfl, rfl, ⟨H2.sel' [1, 2, 0, 3, 4, 5, 6, 7, 8] rfl rfl, m.comp0 (m2.mono (fun i h => by simp [cov, Ch.ro] at h))⟩, stab [0, 1, 3, 4, 6, 7, 9, 10, 13] (by kernel_rfl) ⟨rfl, rfl, rfl, rfl, rfl, rfl, rfl, rfl, rfl, trivial⟩⟩
    refine ⟨?_, ?_⟩
    ·rintro ⟨⟨⟨a11, c12⟩, ⟨b14, ⟨a17, c18⟩⟩⟩, ⟨⟨a23, ⟨c24, b25⟩⟩, ⟨a28, ⟨c29, b30⟩⟩⟩⟩ ρ σm hJ hoff hdep
     have e10 : look 31 ρ 10 = (Sl Cd Cc.1 Ce) := hdep 1 rfl rfl 10 rfl
     obtain ⟨H, m⟩ := id hJ
     refine dp_cx wn (cx_call hc10 (ent_f hc10.fn (by show [look 31 ρ 10] = _; rw [e10])) hn0 (H.sel' [5, 0, 1, 2, 3, 4, 5, 6, 7] rfl rfl : Hp S0 σ0 _ ([_] ++ _))) ?_
     rintro _ σq ⟨_, ⟨a11x, c12x, rfl, rfl⟩, H2, m2⟩
     exact ⟨_, (((a11x, c12x), (b14, (a17, c18))), ((a23, (c24, b25)), (a28, (c29, b30)))), rfl, rfl, ⟨H2.sel' [1, 2, 0, 3, 4, 5, 6, 7, 8] rfl rfl, m.comp0 (m2.mono (fun i h => by simp [cov, Ch.ro] at h))⟩, stab [0, 1, 3, 4, 6, 7, 9, 10, 13] (by kernel_rfl) ⟨rfl, rfl, rfl, rfl, rfl, rfl, rfl, rfl, rfl, trivial⟩⟩
    refine ⟨?_, ?_⟩
    ·rintro ⟨⟨⟨a11, c12⟩, ⟨b14, ⟨a17, c18⟩⟩⟩, ⟨⟨a23, ⟨c24, b25⟩⟩, ⟨a28, ⟨c29, b30⟩⟩⟩⟩ ρ σm hJ hoff hdep
     have e10 : look 31 ρ 10 = (Sl Cd Cc.1 Ce) := hdep 1 rfl rfl 10 rfl
     obtain ⟨H, m⟩ := id hJ
     refine dp_cx wn (cx_call hc10 (ent_f hc10.fn (by show [look 31 ρ 10] = _; rw [e10])) hn0 (H.sel' [5, 0, 1, 2, 3, 4, 5, 6, 7] rfl rfl : Hp S0 σ0 _ ([_] ++ _))) ?_
     rintro _ σq ⟨_, ⟨a11x, c12x, rfl, rfl⟩, H2, m2⟩
     exact ⟨_, (((a11x, c12x), (b14, (a17, c18))), ((a23, (c24, b25)), (a28, (c29, b30)))), rfl, rfl, ⟨H2.sel' [1, 2, 0, 3, 4, 5, 6, 7, 8] rfl rfl, m.comp0 (m2.mono (fun i h => by simp [cov, Ch.ro] at h))⟩, stab [0, 1, 3, 4, 6, 7, 9, 10, 13] (by kernel_rfl) ⟨rfl, rfl, rfl, rfl, rfl, rfl, rfl, rfl, rfl, trivial⟩⟩
    refine ⟨?_, ?_⟩
    ·rintro ⟨⟨⟨a11, c12⟩, ⟨b14, ⟨a17, c18⟩⟩⟩, ⟨⟨a23, ⟨c24, b25⟩⟩, ⟨a28, ⟨c29, b30⟩⟩⟩⟩ ρ σm hJ hoff hdep
     have e10 : look 31 ρ 10 = (Sl Cd Cc.1 Ce) := hdep 1 rfl rfl 10 rfl
     obtain ⟨H, m⟩ := id hJ
     refine dp_cx wn (cx_call hc10 (ent_f hc10.fn (by show [look 31 ρ 10] = _; rw [e10])) hn0 (H.sel' [6, 0, 1, 2, 3, 4, 5, 6, 7, 8] rfl rfl : Hp S0 σ0 _ ([_] ++ _))) ?_
     rintro _ σq ⟨_, ⟨a11x, c12x, rfl, rfl⟩, H2, m2⟩
     exact ⟨_, (((a11x, c12x), (b14, (a17, c18))), ((a23, (c24, b25)), (a28, (c29, b30)))), rfl, rfl, ⟨H2.sel' [1, 2, 3, 0, 4, 5, 6, 7, 8, 9] rfl rfl, m.comp0 (m2.mono (fun i h => by simp [cov, Ch.ro] at h))⟩, stab [0, 1, 3, 4, 6, 7, 9, 10, 13] (by kernel_rfl) ⟨rfl, rfl, rfl, rfl, rfl, rfl, rfl, rfl, rfl, trivial⟩⟩
    trivial) ?_
  refine all_cons (by
    refine ⟨?_, ?_⟩
    ·rintro ⟨⟨⟨a11, c12⟩, ⟨b14, ⟨a17, c18⟩⟩⟩, ⟨⟨a23, ⟨c24, b25⟩⟩, ⟨a28, ⟨c29, b30⟩⟩⟩⟩ ρ σm hJ hoff hdep
     have e4 := look_off (N := 31) (hoff 4 rfl) rfl
     obtain ⟨H, m⟩ := id hJ
     have hc13 := H.cells 1 rfl
     exact dp_v (v := (.agg #[(I Cm.1), (I Cm.2.1), (Sl Cn Cm.2.2.1 Cp), (I Cm.2.2.2)])) wn (rv_load (cs := [(I Cm.1), (I Cm.2.1), (Sl Cn Cm.2.2.1 Cp), (I Cm.2.2.2)]) Try.underlying43 rfl ti43 e4 rfl hc13) rfl hJ
    refine ⟨?_, ?_⟩
    ·rintro ⟨⟨⟨a11, c12⟩, ⟨b14, ⟨a17, c18⟩⟩⟩, ⟨⟨a23, ⟨c24, b25⟩⟩, ⟨a28, ⟨c29, b30⟩⟩⟩⟩ ρ σm hJ hoff hdep
     have e4 := look_off (N := 31) (hoff 4 rfl) rfl
     obtain ⟨H, m⟩ := id hJ
     have hc13 := H.cells 2 rfl
     exact dp_v (v := (.agg #[(I Cm.1), (I Cm.2.1), (Sl Cn Cm.2.2.1 Cp), (I Cm.2.2.2)])) wn (rv_load (cs := [(I Cm.1), (I Cm.2.1), (Sl Cn Cm.2.2.1 Cp), (I Cm.2.2.2)]) Try.underlying43 rfl ti43 e4 rfl hc13) rfl hJ
    refine ⟨?_, ?_⟩
    ·rintro ⟨⟨⟨a11, c12⟩, ⟨b14, ⟨a17, c18⟩⟩⟩, ⟨⟨a23, ⟨c24, b25⟩⟩, ⟨a28, ⟨c29, b30⟩⟩⟩⟩ ρ σm hJ hoff hdep
     have e4 := look_off (N := 31) (hoff 4 rfl) rfl
     obtain ⟨H, m⟩ := id hJ
     have hc13 := H.cells 2 rfl
     exact dp_v (v := (.agg #[(I Cm.1), (I Cm.2.1), (Sl Cn Cm.2.2.1 Cp), (I Cm.2.2.2)])) wn (rv_load (cs := [(I Cm.1), (I Cm.2.1), (Sl Cn Cm.2.2.1 Cp), (I Cm.2.2.2)]) Try.underlying43 rfl ti43 e4 rfl hc13) rfl hJ
    refine ⟨?_, ?_⟩
    ·rintro ⟨⟨⟨a11, c12⟩, ⟨b14, ⟨a17, c18⟩⟩⟩, ⟨⟨a23, ⟨c24, b25⟩⟩, ⟨a28, ⟨c29, b30⟩⟩⟩⟩ ρ σm hJ hoff hdep
     have e4 := look_off (N := 31) (hoff 4 rfl) rfl
     obtain ⟨H, m⟩ := id hJ
     have hc13 := H.cells 2 rfl
     exact dp_v (v := (.agg #[(I Cm.1), (I Cm.2.1), (Sl Cn Cm.2.2.1 Cp), (I Cm.2.2.2)])) wn (rv_load (cs := [(I Cm.1), (I Cm.2.1), (Sl Cn Cm.2.2.1 Cp), (I Cm.2.2.2)]) Try.underlying43 rfl ti43 e4 rfl hc13) rfl hJ
    refine ⟨?_, ?_⟩
    ·rintro ⟨⟨⟨a11, c12⟩, ⟨b14, ⟨a17, c18⟩⟩⟩, ⟨⟨a23, ⟨c24, b25⟩⟩, ⟨a28, ⟨c29, b30⟩⟩⟩⟩ ρ σm hJ hoff hdep
     have e4 := look_off (N := 31) (hoff 4 rfl) rfl
     obtain ⟨H, m⟩ := id hJ
     have hc13 := H.cells 3 rfl
     exact dp_v (v := (.agg #[(I Cm.1), (I Cm.2.1), (Sl Cn Cm.2.2.1 Cp), (I Cm.2.2.2)])) wn (rv_load (cs := [(I Cm.1), (I Cm.2.1), (Sl Cn Cm.2.2.1 Cp), (I Cm.2.2.2)]) Try.underlying43 rfl ti43 e4 rfl hc13) rfl hJ
    refine ⟨?_, ?_⟩
    ·rintro ⟨⟨⟨a11, c12⟩, ⟨b14, ⟨a17, c18⟩⟩⟩, ⟨⟨a23, ⟨c24, b25⟩⟩, ⟨a28, ⟨c29, b30⟩⟩⟩⟩ ρ σm hJ hoff hdep
     have e4 := look_off (N := 31) (hoff 4 rfl) rfl
     obtain ⟨H, m⟩ := id hJ
     have hc13 := H.cells 3 rfl
     exact dp_v (v := (.agg #[(I Cm.1), (I Cm.2.1), (Sl Cn Cm.2.2.1 Cp), (I Cm.2.2.2)])) wn (rv_load (cs := [(I Cm.1), (I Cm.2.1), (Sl Cn Cm.2.2.1 Cp), (I Cm.2.2.2)]) Try.underlying43 rfl ti43 e4 rfl hc13) rfl hJ
    refine ⟨?_, ?_⟩
    ·rintro ⟨⟨⟨a11, c12⟩, ⟨b14, ⟨a17, c18⟩⟩⟩, ⟨⟨a23, ⟨c24, b25⟩⟩, ⟨a28, ⟨c29, b30⟩⟩⟩⟩ ρ σm hJ hoff hdep
     have e4 := look_off (N := 31) (hoff 4 rfl) rfl
     obtain ⟨H, m⟩ := id hJ
     have hc13 := H.cells 3 rfl
     exact dp_v (v := (.agg #[(I Cm.1), (I Cm.2.1), (Sl Cn Cm.2.2.1 Cp), (I Cm.2.2.2)])) wn (rv_load (cs := [(I Cm.1), (I Cm.2.1), (Sl Cn Cm.2.2.1 Cp), (I Cm.2.2.2)]) Try.underlying43 rfl ti43 e4 rfl hc13) rfl hJ
    refine ⟨?_, ?_⟩
    ·rintro ⟨⟨⟨a11, c12⟩, ⟨b14, ⟨a17, c18⟩⟩⟩, ⟨⟨a23, ⟨c24, b25⟩⟩, ⟨a28, ⟨c29, b30⟩⟩⟩⟩ ρ σm hJ hoff hdep
     have e4 := look_off (N := 31) (hoff 4 rfl) rfl
     obtain ⟨H, m⟩ := id hJ
     have hc13 := H.cells 4 rfl
     exact dp_v (v := (.agg #[(I Cm.1), (I Cm.2.1), (Sl Cn Cm.2.2.1 Cp), (I Cm.2.2.2)])) wn (rv_load (cs := [(I Cm.1), (I Cm.2.1), (Sl Cn Cm.2.2.1 Cp), (I Cm.2.2.2)]) Try.underlying43 rfl ti43 e4 rfl hc13) rfl hJ
    trivial) ?_
  refine all_cons (by
    refine ⟨?_, ?_⟩
    ·rintro ⟨⟨⟨a11, c12⟩, ⟨b14, ⟨a17, c18⟩⟩⟩, ⟨⟨a23, ⟨c24, b25⟩⟩, ⟨a28, ⟨c29, b30⟩⟩⟩⟩ ρ σm hJ hoff hdep
     have e12 : look 31 ρ 12 = (.agg #[(I Cm.1), (I Cm.2.1), (Sl Cn Cm.2.2.1 Cp), (I Cm.2.2.2)]) := hdep 3 rfl rfl 12 rfl
     obtain ⟨H, m⟩ := id hJ
     refine dp_ex wn (ex_buildSlice (el := 0) (xs := ([(Cm.1, (Cm.2.1, Cm.2.2.1, Cm.2.2.2))] : List (Int × (Int × (List Int) × Int)))) (ps := [(0, (.agg #[(I Cm.1), (I Cm.2.1), (Sl Cn Cm.2.2.1 Cp), (I Cm.2.2.2)]))]) (cs := [(I Cm.1), (I Cm.2.1), (Sl Cn Cm.2.2.1 Cp), (I Cm.2.2.2)]) H hn0 Try.underlying23 ti43 rfl (by show [(0, look 31 ρ 12)] = _; rw [e12]) (by kernel_rfl) (.cons (c := [(I Cm.1), (I Cm.2.1), (Sl Cn Cm.2.2.1 Cp), (I Cm.2.2.2)]) ⟨[(I Cm.1)], [(I Cm.2.1), (Sl Cn Cm.2.2.1 Cp), (I Cm.2.2.2)], rfl, rfl, ⟨[(I Cm.2.1)], [(Sl Cn Cm.2.2.1 Cp), (I Cm.2.2.2)], rfl, rfl, ⟨[(Sl Cn Cm.2.2.1 Cp)], [(I Cm.2.2.2)], rfl, ⟨_, rfl, (H.ro 5 rfl)⟩, rfl⟩⟩⟩ (.nil)) rfl) ?_
     rintro _ σq ⟨b14x, rfl, H2, m2⟩
     exact ⟨_, (((a11, c12), (b14x, (a17, c18))), ((a23, (c24, b25)), (a28, (c29, b30)))), rfl, rfl, ⟨H2.sel' [0, 1, 2, 3, 4, 5, 6] rfl rfl, m.comp0 m2⟩, stab [0, 1, 2, 3, 6, 7, 9, 10, 13] (by kernel_rfl) ⟨rfl, rfl, rfl, rfl, rfl, rfl, rfl, rfl, rfl, trivial⟩⟩
    refine ⟨?_, ?_⟩
    ·rintro ⟨⟨⟨a11, c12⟩, ⟨b14, ⟨a17, c18⟩⟩⟩, ⟨⟨a23, ⟨c24, b25⟩⟩, ⟨a28, ⟨c29, b30⟩⟩⟩⟩ ρ σm hJ hoff hdep
     have e12 : look 31 ρ 12 = (.agg #[(I Cm.1), (I Cm.2.1), (Sl Cn Cm.2.2.1 Cp), (I Cm.2.2.2)]) := hdep 3 rfl rfl 12 rfl
     obtain ⟨H, m⟩ := id hJ
     refine dp_ex wn (ex_buildSlice (el := 0) (xs := ([(Cm.1, (Cm.2.1, Cm.2.2.1, Cm.2.2.2))] : List (Int × (Int × (List Int) × Int)))) (ps := [(0, (.agg #[(I Cm.1), (I Cm.2.1), (Sl Cn Cm.2.2.1 Cp), (I Cm.2.2.2)]))]) (cs := [(I Cm.1), (I Cm.2.1), (Sl Cn Cm.2.2.1 Cp), (I Cm.2.2.2)]) H hn0 Try.underlying23 ti43 rfl (by show [(0, look 31 ρ 12)] = _; rw [e12]) (by kernel_rfl) (.cons (c := [(I Cm.1), (I Cm.2.1), (Sl Cn Cm.2.2.1 Cp), (I Cm.2.2.2)]) ⟨[(I Cm.1)], [(I Cm.2.1), (Sl Cn Cm.2.2.1 Cp), (I Cm.2.2.2)], rfl, rfl, ⟨[(I Cm.2.1)], [(Sl Cn Cm.2.2.1 Cp), (I Cm.2.2.2)], rfl, rfl, ⟨[(Sl Cn Cm.2.2.1 Cp)], [(I Cm.2.2.2)], rfl, ⟨_, rfl, (H.ro 6 rfl)⟩, rfl⟩⟩⟩ (.nil)) rfl) ?_
     rintro _ σq ⟨b14x, rfl, H2, m2⟩
     exact ⟨_, (((a11, c12), (b14x, (a17, c18))), ((a23, (c24, b25)), (a28, (c29, b30)))), rfl, rfl, ⟨H2.sel' [0, 1, 2, 3, 4, 5, 6, 7] rfl rfl, m.comp0 m2⟩, stab [0, 1, 2, 3, 6, 7, 9, 10, 13] (by kernel_rfl) ⟨rfl, rfl, rfl, rfl, rfl, rfl, rfl, rfl, rfl, trivial⟩⟩
    refine ⟨?_, ?_⟩
    ·rintro ⟨⟨⟨a11, c12⟩, ⟨b14, ⟨a17, c18⟩⟩⟩, ⟨⟨a23, ⟨c24, b25⟩⟩, ⟨a28, ⟨c29, b30⟩⟩⟩⟩ ρ σm hJ hoff hdep
     have e12 : look 31 ρ 12 = (.agg #[(I Cm.1), (I Cm.2.1), (Sl Cn Cm.2.2.1 Cp), (I Cm.2.2.2)]) := hdep 3 rfl rfl 12 rfl
     obtain ⟨H, m⟩ := id hJ
     refine dp_ex wn (ex_buildSlice (el := 0) (xs := ([(Cm.1, (Cm.2.1, Cm.2.2.1, Cm.2.2.2))] : List (Int × (Int × (List Int) × Int)))) (ps := [(0, (.agg #[(I Cm.1), (I Cm.2.1), (Sl Cn Cm.2.2.1 Cp), (I Cm.2.2.2)]))]) (cs := [(I Cm.1), (I Cm.2.1), (Sl Cn Cm.2.2.1 Cp), (I Cm.2.2.2)]) H hn0 Try.underlying23 ti43 rfl (by show [(0, look 31 ρ 12)] = _; rw [e12]) (by kernel_rfl) (.cons (c := [(I Cm.1), (I Cm.2.1), (Sl Cn Cm.2.2.1 Cp), (I Cm.2.2.2)]) ⟨[(I Cm.1)], [(I Cm.2.1), (Sl Cn Cm.2.2.1 Cp), (I Cm.2.2.2)], rfl, rfl, ⟨[(I Cm.2.1)], [(Sl Cn Cm.2.2.1 Cp), (I Cm.2.2.2)], rfl, rfl, ⟨[(Sl Cn Cm.2.2.1 Cp)], [(I Cm.2.2.2)], rfl, ⟨_, rfl, (H.ro 6 rfl)⟩, rfl⟩⟩⟩ (.nil)) rfl) ?_
     rintro _ σq ⟨b14x, rfl, H2, m2⟩
     exact ⟨_, (((a11, c12), (b14x, (a17, c18))), ((a23, (c24, b25)), (a28, (c29, b30)))), rfl, rfl, ⟨H2.sel' [1, 0, 2, 3, 4, 5, 6, 7] rfl rfl, m.comp0 m2⟩, stab [0, 1, 2, 3, 6, 7, 9, 10, 13] (by kernel_rfl) ⟨rfl, rfl, rfl, rfl, rfl, rfl, rfl, rfl, rfl, trivial⟩⟩
    refine ⟨?_, ?_⟩
    ·rintro ⟨⟨⟨a11, c12⟩, ⟨b14, ⟨a17, c18⟩⟩⟩, ⟨⟨a23, ⟨c24, b25⟩⟩, ⟨a28, ⟨c29, b30⟩⟩⟩⟩ ρ σm hJ hoff hdep
     have e12 : look 31 ρ 12 = (.agg #[(I Cm.1), (I Cm.2.1), (Sl Cn Cm.2.2.1 Cp), (I Cm.2.2.2)]) := hdep 3 rfl rfl 12 rfl
     obtain ⟨H, m⟩ := id hJ
     refine dp_ex wn (ex_buildSlice (el := 0) (xs := ([(Cm.1, (Cm.2.1, Cm.2.2.1, Cm.2.2.2))] : List (Int × (Int × (List Int) × Int)))) (ps := [(0, (.agg #[(I Cm.1), (I Cm.2.1), (Sl Cn Cm.2.2.1 Cp), (I Cm.2.2.2)]))]) (cs := [(I Cm.1), (I Cm.2.1), (Sl Cn Cm.2.2.1 Cp), (I Cm.2.2.2)]) H hn0 Try.underlying23 ti43 rfl (by show [(0, look 31 ρ 12)] = _; rw [e12]) (by kernel_rfl) (.cons (c := [(I Cm.1), (I Cm.2.1), (Sl Cn Cm.2.2.1 Cp), (I Cm.2.2.2)]) ⟨[(I Cm.1)], [(I Cm.2.1), (Sl Cn Cm.2.2.1 Cp), (I Cm.2.2.2)], rfl, rfl, ⟨[(I Cm.2.1)], [(Sl Cn Cm.2.2.1 Cp), (I Cm.2.2.2)], rfl, rfl, ⟨[(Sl Cn Cm.2.2.1 Cp)], [(I Cm.2.2.2)], rfl, ⟨_, rfl, (H.ro 6 rfl)⟩, rfl⟩⟩⟩ (.nil)) rfl) ?_
     rintro _ σq ⟨b14x, rfl, H2, m2⟩
     exact ⟨_, (((a11, c12), (b14x, (a17, c18))), ((a23, (c24, b25)), (a28, (c29, b30)))), rfl, rfl, ⟨H2.sel' [1, 0, 2, 3, 4, 5, 6, 7] rfl rfl, m.comp0 m2⟩, stab [0, 1, 2, 3, 6, 7, 9, 10, 13] (by kernel_rfl) ⟨rfl, rfl, rfl, rfl, rfl, rfl, rfl, rfl, rfl, trivial⟩⟩
    refine ⟨?_, ?_⟩
    ·rintro ⟨⟨⟨a11, c12⟩, ⟨b14, ⟨a17, c18⟩⟩⟩, ⟨⟨a23, ⟨c24, b25⟩⟩, ⟨a28, ⟨c29, b30⟩⟩⟩⟩ ρ σm hJ hoff hdep
     have e12 : look 31 ρ 12 = (.agg #[(I Cm.1), (I Cm.2.1), (Sl Cn Cm.2.2.1 Cp), (I Cm.2.2.2)]) := hdep 3 rfl rfl 12 rfl
     obtain ⟨H, m⟩ := id hJ
     refine dp_ex wn (ex_buildSlice (el := 0) (xs := ([(Cm.1, (Cm.2.1, Cm.2.2.1, Cm.2.2.2))] : List (Int × (Int × (List Int) × Int)))) (ps := [(0, (.agg #[(I Cm.1), (I Cm.2.1), (Sl Cn Cm.2.2.1 Cp), (I Cm.2.2.2)]))]) (cs := [(I Cm.1), (I Cm.2.1), (Sl Cn Cm.2.2.1 Cp), (I Cm.2.2.2)]) H hn0 Try.underlying23 ti43 rfl (by show [(0, look 31 ρ 12)] = _; rw [e12]) (by kernel_rfl) (.cons (c := [(I Cm.1), (I Cm.2.1), (Sl Cn Cm.2.2.1 Cp), (I Cm.2.2.2)]) ⟨[(I Cm.1)], [(I Cm.2.1), (Sl Cn Cm.2.2.1 Cp), (I Cm.2.2.2)], rfl, rfl, ⟨[(I Cm.2.1)], [(Sl Cn Cm.2.2.1 Cp), (I Cm.2.2.2)], rfl, rfl, ⟨[(Sl Cn Cm.2.2.1 Cp)], [(I Cm.2.2.2)], rfl, ⟨_, rfl, (H.ro 7 rfl)⟩, rfl⟩⟩⟩ (.nil)) rfl) ?_
     rintro _ σq ⟨b14x, rfl, H2, m2⟩
     exact ⟨_, (((a11, c12), (b14x, (a17, c18))), ((a23, (c24, b25)), (a28, (c29, b30)))), rfl, rfl, ⟨H2.sel' [1, 0, 2, 3, 4, 5, 6, 7, 8] rfl rfl, m.comp0 m2⟩, stab [0, 1, 2, 3, 6, 7, 9, 10, 13] (by kernel_rfl) ⟨rfl, rfl, rfl, rfl, rfl, rfl, rfl, rfl, rfl, trivial⟩⟩
    refine ⟨?_, ?_⟩
    ·rintro ⟨⟨⟨a11, c12⟩, ⟨b14, ⟨a17, c18⟩⟩⟩, ⟨⟨a23, ⟨c24, b25⟩⟩, ⟨a28, ⟨c29, b30⟩⟩⟩⟩ ρ σm hJ hoff hdep
     have e12 : look 31 ρ 12 = (.agg #[(I Cm.1), (I Cm.2.1), (Sl Cn Cm.2.2.1 Cp), (I Cm.2.2.2)]) := hdep 3 rfl rfl 12 rfl
     obtain ⟨H, m⟩ := id hJ
     refine dp_ex wn (ex_buildSlice (el := 0) (xs := ([(Cm.1, (Cm.2.1, Cm.2.2.1, Cm.2.2.2))] : List (Int × (Int × (List Int) × Int)))) (ps := [(0, (.agg #[(I Cm.1), (I Cm.2.1), (Sl Cn Cm.2.2.1 Cp), (I Cm.2.2.2)]))]) (cs := [(I Cm.1), (I Cm.2.1), (Sl Cn Cm.2.2.1 Cp), (I Cm.2.2.2)]) H hn0 Try.underlying23 ti43 rfl (by show [(0, look 31 ρ 12)] = _; rw [e12]) (by kernel_rfl) (.cons (c := [(I Cm.1), (I Cm.2.1), (Sl Cn Cm.2.2.1 Cp), (I Cm.2.2.2)]) ⟨[(I Cm.1)], [(I Cm.2.1), (Sl Cn Cm.2.2.1 Cp), (I Cm.2.2.2)], rfl, rfl, ⟨[(I Cm.2.1)], [(Sl Cn Cm.2.2.1 Cp), (I Cm.2.2.2)], rfl, rfl, ⟨[(Sl Cn Cm.2.2.1 Cp)], [(I Cm.2.2.2)], rfl, ⟨_, rfl, (H.ro 7 rfl)⟩, rfl⟩⟩⟩ (.nil)) rfl) ?_
     rintro _ σq ⟨b14x, rfl, H2, m2⟩
     exact ⟨_, (((a11, c12), (b14x, (a17, c18))), ((a23, (c24, b25)), (a28, (c29, b30)))), rfl, rfl, ⟨H2.sel' [1, 0, 2, 3, 4, 5, 6, 7, 8] rfl rfl, m.comp0 m2⟩, stab [0, 1, 2, 3, 6, 7, 9, 10, 13] (by kernel_rfl) ⟨rfl, rfl, rfl, rfl, rfl, rfl, rfl, rfl, rfl, trivial⟩⟩
    refine ⟨?_, ?_⟩
    ·rintro ⟨⟨⟨a11, c12⟩, ⟨b14, ⟨a17, c18⟩⟩⟩, ⟨⟨a23, ⟨c24, b25⟩⟩, ⟨a28, ⟨c29, b30⟩⟩⟩⟩ ρ σm hJ hoff hdep
     have e12 : look 31 ρ 12 = (.agg #[(I Cm.1), (I Cm.2.1), (Sl Cn Cm.2.2.1 Cp), (I Cm.2.2.2)]) := hdep 3 rfl rfl 12 rfl
     obtain ⟨H, m⟩ := id hJ
     refine dp_ex wn (ex_buildSlice (el := 0) (xs := ([(Cm.1, (Cm.2.1, Cm.2.2.1, Cm.2.2.2))] : List (Int × (Int × (List Int) × Int)))) (ps := [(0, (.agg #[(I Cm.1), (I Cm.2.1), (Sl Cn Cm.2.2.1 Cp), (I Cm.2.2.2)]))]) (cs := [(I Cm.1), (I Cm.2.1), (Sl Cn Cm.2.2.1 Cp), (I Cm.2.2.2)]) H hn0 Try.underlying23 ti43 rfl (by show [(0, look 31 ρ 12)] = _; rw [e12]) (by kernel_rfl) (.cons (c := [(I Cm.1), (I Cm.2.1), (Sl Cn Cm.2.2.1 Cp), (I Cm.2.2.2)]) ⟨[(I Cm.1)], [(I Cm.2.1), (Sl Cn Cm.2.2.1 Cp), (I Cm.2.2.2)], rfl, rfl, ⟨[(I Cm.2.1)], [(Sl Cn Cm.2.2.1 Cp), (I Cm.2.2.2)], rfl, rfl, ⟨[(Sl Cn Cm.2.2.1 Cp)], [(I Cm.2.2.2)], rfl, ⟨_, rfl, (H.ro 7 rfl)⟩, rfl⟩⟩⟩ (.nil)) rfl) ?_
     rintro _ σq ⟨b14x, rfl, H2, m2⟩
     exact ⟨_, (((a11, c12), (b14x, (a17, c18))), ((a23, (c24, b25)), (a28, (c29, b30)))), rfl, rfl, ⟨H2.sel' [1, 2, 0, 3, 4, 5, 6, 7, 8] rfl rfl, m.comp0 m2⟩, stab [0, 1, 2, 3, 6, 7, 9, 10, 13] (by kernel_rfl) ⟨rfl, rfl, rfl, rfl, rfl, rfl, rfl, rfl, rfl, trivial⟩⟩
    refine ⟨?_, ?_⟩
    ·rintro ⟨⟨⟨a11, c12⟩, ⟨b14, ⟨a17, c18⟩⟩⟩, ⟨⟨a23, ⟨c24, b25⟩⟩, ⟨a28, ⟨c29, b30⟩⟩⟩⟩ ρ σm hJ hoff hdep
     have e12 : look 31 ρ 12 = (.agg #[(I Cm.1), (I Cm.2.1), (Sl Cn Cm.2.2.1 Cp), (I Cm.2.2.2)]) := hdep 3 rfl rfl 12 rfl
     obtain ⟨H, m⟩ := id hJ
     refine dp_ex wn (ex_buildSlice (el := 0) (xs := ([(Cm.1, (Cm.2.1, Cm.2.2.1, Cm.2.2.2))] : List (Int × (Int × (List Int) × Int)))) (ps := [(0, (.agg #[(I Cm.1), (I Cm.2.1), (Sl Cn Cm.2.2.1 Cp), (I Cm.2.2.2)]))]) (cs := [(I Cm.1), (I Cm.2.1), (Sl Cn Cm.2.2.1 Cp), (I Cm.2.2.2)]) H hn0 Try.underlying23 ti43 rfl (by show [(0, look 31 ρ 12)] = _; rw [e12]) (by kernel_rfl) (.cons (c := [(I Cm.1), (I Cm.2.1), (Sl Cn Cm.2.2.1 Cp), (I Cm.2.2.2)]) ⟨[(I Cm.1)], [(I Cm.2.1), (Sl Cn Cm.2.2.1 Cp), (I Cm.2.2.2)], rfl, rfl, ⟨[(I Cm.2.1)], [(Sl Cn Cm.2.2.1 Cp), (I Cm.2.2.2)], rfl, rfl, ⟨[(Sl Cn Cm.2.2.1 Cp)], [(I Cm.2.2.2)], rfl, ⟨_, rfl, (H.ro 8 rfl)⟩, rfl⟩⟩⟩ (.nil)) rfl) ?_
     rintro _ σq ⟨b14x, rfl, H2, m2⟩
     exact ⟨_, (((a11, c12), (b14x, (a17, c18))), ((a23, (c24, b25)), (a28, (c29, b30)))), rfl, rfl, ⟨H2.sel' [1, 2, 0, 3, 4, 5, 6, 7, 8, 9] rfl rfl, m.comp0 m2⟩, stab [0, 1, 2, 3, 6, 7, 9, 10, 13] (by kernel_rfl) ⟨rfl, rfl, rfl, rfl, rfl, rfl, rfl, rfl, rfl, trivial⟩⟩
    trivial) ?_
  refine all_cons (by
    refine ⟨?_, ?_⟩
    ·rintro ⟨⟨⟨a11, c12⟩, ⟨b14, ⟨a17, c18⟩⟩⟩, ⟨⟨a23, ⟨c24, b25⟩⟩, ⟨a28, ⟨c29, b30⟩⟩⟩⟩ ρ σm hJ hoff hdep
     have e11 := hdep 2 rfl rfl 11 rfl
     have e13 := hdep 4 rfl rfl 13 rfl
     obtain ⟨H, m⟩ := id hJ
     refine dp_ex wn (ex_append H (i := 1) rfl Try.underlying23 Try.underlying23 ti43 rfl rfl (by decide) (H.own 0 rfl).rd hx16 hn0 e11 e13) ?_
     rintro _ σq ⟨a17x, c18x, rfl, H2, m2⟩
     exact ⟨_, (((a11, c12), (b14, (a17x, c18x))), ((a23, (c24, b25)), (a28, (c29, b30)))), rfl, rfl, ⟨H2.sel' [0, 1, 2, 3, 4, 5, 6, 7] rfl rfl, m.comp m2⟩, stab [0, 1, 2, 3, 4, 6, 7, 9, 10, 13] (by kernel_rfl) ⟨rfl, rfl, rfl, rfl, rfl, rfl, rfl, rfl, rfl, rfl, trivial⟩⟩
    refine ⟨?_, ?_⟩
    ·rintro ⟨⟨⟨a11, c12⟩, ⟨b14, ⟨a17, c18⟩⟩⟩, ⟨⟨a23, ⟨c24, b25⟩⟩, ⟨a28, ⟨c29, b30⟩⟩⟩⟩ ρ σm hJ hoff hdep
     have e11 := hdep 2 rfl rfl 11 rfl
     have e13 := hdep 4 rfl rfl 13 rfl
     obtain ⟨H, m⟩ := id hJ
     refine dp_ex wn (ex_append H (i := 2) rfl Try.underlying23 Try.underlying23 ti43 rfl rfl (by decide) (H.own 1 rfl).rd hx16 hn0 e11 e13) ?_
     rintro _ σq ⟨a17x, c18x, rfl, H2, m2⟩
     exact ⟨_, (((a11, c12), (b14, (a17x, c18x))), ((a23, (c24, b25)), (a28, (c29, b30)))), rfl, rfl, ⟨H2.sel' [1, 0, 2, 3, 4, 5, 6, 7, 8] rfl rfl, m.comp m2⟩, stab [0, 1, 2, 3, 4, 6, 7, 9, 10, 13] (by kernel_rfl) ⟨rfl, rfl, rfl, rfl, rfl, rfl, rfl, rfl, rfl, rfl, trivial⟩⟩
    refine ⟨?_, ?_⟩
    ·rintro ⟨⟨⟨a11, c12⟩, ⟨b14, ⟨a17, c18⟩⟩⟩, ⟨⟨a23, ⟨c24, b25⟩⟩, ⟨a28, ⟨c29, b30⟩⟩⟩⟩ ρ σm hJ hoff hdep
     have e11 := hdep 2 rfl rfl 11 rfl
     have e13 := hdep 4 rfl rfl 13 rfl
     obtain ⟨H, m⟩ := id hJ
     refine dp_ex wn (ex_append H (i := 2) rfl Try.underlying23 Try.underlying23 ti43 rfl rfl (by decide) (H.own 1 rfl).rd hx16 hn0 e11 e13) ?_
     rintro _ σq ⟨a17x, c18x, rfl, H2, m2⟩
     exact ⟨_, (((a11, c12), (b14, (a17x, c18x))), ((a23, (c24, b25)), (a28, (c29, b30)))), rfl, rfl, ⟨H2.sel' [1, 0, 2, 3, 4, 5, 6, 7, 8] rfl rfl, m.comp m2⟩, stab [0, 1, 2, 3, 4, 6, 7, 9, 10, 13] (by kernel_rfl) ⟨rfl, rfl, rfl, rfl, rfl, rfl, rfl, rfl, rfl, rfl, trivial⟩⟩
    refine ⟨?_, ?_⟩
    ·rintro ⟨⟨⟨a11, c12⟩, ⟨b14, ⟨a17, c18⟩⟩⟩, ⟨⟨a23, ⟨c24, b25⟩⟩, ⟨a28, ⟨c29, b30⟩⟩⟩⟩ ρ σm hJ hoff hdep
     have e11 := hdep 2 rfl rfl 11 rfl
     have e13 := hdep 4 rfl rfl 13 rfl
     obtain ⟨H, m⟩ := id hJ
     refine dp_ex wn (ex_append H (i := 3) rfl Try.underlying23 Try.underlying23 ti43 rfl rfl (by decide) (H.own 2 rfl).rd hx16 hn0 e11 e13) ?_
     rintro _ σq ⟨a17x, c18x, rfl, H2, m2⟩
     exact ⟨_, (((a11, c12), (b14, (a17x, c18x))), ((a23, (c24, b25)), (a28, (c29, b30)))), rfl, rfl, ⟨H2.sel' [1, 2, 0, 3, 4, 5, 6, 7, 8, 9] rfl rfl, m.comp m2⟩, stab [0, 1, 2, 3, 4, 6, 7, 9, 10, 13] (by kernel_rfl) ⟨rfl, rfl, rfl, rfl, rfl, rfl, rfl, rfl, rfl, rfl, trivial⟩⟩
    trivial) ?_
  refine ac rfl (by
    intro k; rintro ⟨⟨⟨a11, c12⟩, ⟨b14, ⟨a17, c18⟩⟩⟩, ⟨⟨a23, ⟨c24, b25⟩⟩, ⟨a28, ⟨c29, b30⟩⟩⟩⟩ ρ σm hJ hoff hdep
    have e3 := look_off (N := 31) (hoff 3 rfl) rfl
    exact dp_v (v := (pt b1 1)) wn (rv_fieldAddr (off := 1) (ft := 24) Try.underlying26 rfl ti24 rfl e3) rfl hJ) ?_
  refine all_cons (by
    refine ⟨?_, ?_⟩
    ·rintro ⟨⟨⟨a11, c12⟩, ⟨b14, ⟨a17, c18⟩⟩⟩, ⟨⟨a23, ⟨c24, b25⟩⟩, ⟨a28, ⟨c29, b30⟩⟩⟩⟩ ρ σm hJ hoff hdep
     have e15 := hdep 6 rfl rfl 15 rfl
     obtain ⟨H, m⟩ := id hJ
     have hc19 := H.cell (u := (Sl Cf Cc.2 Cg)) (o' := 1) 2 1 rfl rfl rfl
     exact dp_v (v := (Sl Cf Cc.2 Cg)) wn (rv_load1 Try.underlying24 rfl e15 hc19) rfl hJ
    refine ⟨?_, ?_⟩
    ·rintro ⟨⟨⟨a11, c12⟩, ⟨b14, ⟨a17, c18⟩⟩⟩, ⟨⟨a23, ⟨c24, b25⟩⟩, ⟨a28, ⟨c29, b30⟩⟩⟩⟩ ρ σm hJ hoff hdep
     have e15 := hdep 6 rfl rfl 15 rfl
     obtain ⟨H, m⟩ := id hJ
     have hc19 := H.cell (u := (Sl Cf Cc.2 Cg)) (o' := 1) 3 1 rfl rfl rfl
     exact dp_v (v := (Sl Cf Cc.2 Cg)) wn (rv_load1 Try.underlying24 rfl e15 hc19) rfl hJ
    refine ⟨?_, ?_⟩
    ·rintro ⟨⟨⟨a11, c12⟩, ⟨b14, ⟨a17, c18⟩⟩⟩, ⟨⟨a23, ⟨c24, b25⟩⟩, ⟨a28, ⟨c29, b30⟩⟩⟩⟩ ρ σm hJ hoff hdep
     have e15 := hdep 6 rfl rfl 15 rfl
     obtain ⟨H, m⟩ := id hJ
     have hc19 := H.cell (u := (Sl Cf Cc.2 Cg)) (o' := 1) 3 1 rfl rfl rfl
     exact dp_v (v := (Sl Cf Cc.2 Cg)) wn (rv_load1 Try.underlying24 rfl e15 hc19) rfl hJ
    refine ⟨?_, ?_⟩
    ·rintro ⟨⟨⟨a11, c12⟩, ⟨b14, ⟨a17, c18⟩⟩⟩, ⟨⟨a23, ⟨c24, b25⟩⟩, ⟨a28, ⟨c29, b30⟩⟩⟩⟩ ρ σm hJ hoff hdep
     have e15 := hdep 6 rfl rfl 15 rfl
     obtain ⟨H, m⟩ := id hJ
     have hc19 := H.cell (u := (Sl Cf Cc.2 Cg)) (o' := 1) 3 1 rfl rfl rfl
     exact dp_v (v := (Sl Cf Cc.2 Cg)) wn (rv_load1 Try.underlying24 rfl e15 hc19) rfl hJ
    refine ⟨?_, ?_⟩
    ·rintro ⟨⟨⟨a11, c12⟩, ⟨b14, ⟨a17, c18⟩⟩⟩, ⟨⟨a23, ⟨c24, b25⟩⟩, ⟨a28, ⟨c29, b30⟩⟩⟩⟩ ρ σm hJ hoff hdep
     have e15 := hdep 6 rfl rfl 15 rfl
     obtain ⟨H, m⟩ := id hJ
     have hc19 := H.cell (u := (Sl Cf Cc.2 Cg)) (o' := 1) 3 1 rfl rfl rfl
     exact dp_v (v := (Sl Cf Cc.2 Cg)) wn (rv_load1 Try.underlying24 rfl e15 hc19) rfl hJ
    refine ⟨?_, ?_⟩
    ·rintro ⟨⟨⟨a11, c12⟩, ⟨b14, ⟨a17, c18⟩⟩⟩, ⟨⟨a23, ⟨c24, b25⟩⟩, ⟨a28, ⟨c29, b30⟩⟩⟩⟩ ρ σm hJ hoff hdep
     have e15 := hdep 6 rfl rfl 15 rfl
     obtain ⟨H, m⟩ := id hJ
     have hc19 := H.cell (u := (Sl Cf Cc.2 Cg)) (o' := 1) 4 1 rfl rfl rfl
     exact dp_v (v := (Sl Cf Cc.2 Cg)) wn (rv_load1 Try.underlying24 rfl e15 hc19) rfl hJ
    refine ⟨?_, ?_⟩
    ·rintro ⟨⟨⟨a11, c12⟩, ⟨b14, ⟨a17, c18⟩⟩⟩, ⟨⟨a23, ⟨c24, b25⟩⟩, ⟨a28, ⟨c29, b30⟩⟩⟩⟩ ρ σm hJ hoff hdep
     have e15 := hdep 6 rfl rfl 15 rfl
     obtain ⟨H, m⟩ := id hJ
     have hc19 := H.cell (u := (Sl Cf Cc.2 Cg)) (o' := 1) 4 1 rfl rfl rfl
     exact dp_v (v := (Sl Cf Cc.2 Cg)) wn (rv_load1 Try.underlying24 rfl e15 hc19) rfl hJ
    refine ⟨?_, ?_⟩
    ·rintro ⟨⟨⟨a11, c12⟩, ⟨b14, ⟨a17, c18⟩⟩⟩, ⟨⟨a23, ⟨c24, b25⟩⟩, ⟨a28, ⟨c29, b30⟩⟩⟩⟩ ρ σm hJ hoff hdep
     have e15 := hdep 6 rfl rfl 15 rfl
     obtain ⟨H, m⟩ := id hJ
     have hc19 := H.cell (u := (Sl Cf Cc.2 Cg)) (o' := 1) 4 1 rfl rfl rfl
     exact dp_v (v := (Sl Cf Cc.2 Cg)) wn (rv_load1 Try.underlying24 rfl e15 hc19) rfl hJ
    refine ⟨?_, ?_⟩
    ·rintro ⟨⟨⟨a11, c12⟩, ⟨b14, ⟨a17, c18⟩⟩⟩, ⟨⟨a23, ⟨c24, b25⟩⟩, ⟨a28, ⟨c29, b30⟩⟩⟩⟩ ρ σm hJ hoff hdep
     have e15 := hdep 6 rfl rfl 15 rfl
     obtain ⟨H, m⟩ := id hJ
     have hc19 := H.cell (u := (Sl Cf Cc.2 Cg)) (o' := 1) 4 1 rfl rfl rfl
     exact dp_v (v := (Sl Cf Cc.2 Cg)) wn (rv_load1 Try.underlying24 rfl e15 hc19) rfl hJ
    refine ⟨?_, ?_⟩
    ·rintro ⟨⟨⟨a11, c12⟩, ⟨b14, ⟨a17, c18⟩⟩⟩, ⟨⟨a23, ⟨c24, b25⟩⟩, ⟨a28, ⟨c29, b30⟩⟩⟩⟩ ρ σm hJ hoff hdep
     have e15 := hdep 6 rfl rfl 15 rfl
     obtain ⟨H, m⟩ := id hJ
     have hc19 := H.cell (u := (Sl Cf Cc.2 Cg)) (o' := 1) 4 1 rfl rfl rfl
     exact dp_v (v := (Sl Cf Cc.2 Cg)) wn (rv_load1 Try.underlying24 rfl e15 hc19) rfl hJ
    refine ⟨?_, ?_⟩
    ·rintro ⟨⟨⟨a11, c12⟩, ⟨b14, ⟨a17, c18⟩⟩⟩, ⟨⟨a23, ⟨c24, b25⟩⟩, ⟨a28, ⟨c29, b30⟩⟩⟩⟩ ρ σm hJ hoff hdep
     have e15 := hdep 6 rfl rfl 15 rfl
     obtain ⟨H, m⟩ := id hJ
     have hc19 := H.cell (u := (Sl Cf Cc.2 Cg)) (o' := 1) 4 1 rfl rfl rfl
     exact dp_v (v := (Sl Cf Cc.2 Cg)) wn (rv_load1 Try.underlying24 rfl e15 hc19) rfl hJ
    refine ⟨?_, ?_⟩
    ·rintro ⟨⟨⟨a11, c12⟩, ⟨b14, ⟨a17, c18⟩⟩⟩, ⟨⟨a23, ⟨c24, b25⟩⟩, ⟨a28, ⟨c29, b30⟩⟩⟩⟩ ρ σm hJ hoff hdep
     have e15 := hdep 6 rfl rfl 15 rfl
     obtain ⟨H, m⟩ := id hJ
     have hc19 := H.cell (u := (Sl Cf Cc.2 Cg)) (o' := 1) 4 1 rfl rfl rfl
     exact dp_v (v := (Sl Cf Cc.2 Cg)) wn (rv_load1 Try.underlying24 rfl e15 hc19) rfl hJ
    refine ⟨?_, ?_⟩
    ·rintro ⟨⟨⟨a11, c12⟩, ⟨b14, ⟨a17, c18⟩⟩⟩, ⟨⟨a23, ⟨c24, b25⟩⟩, ⟨a28, ⟨c29, b30⟩⟩⟩⟩ ρ σm hJ hoff hdep
     have e15 := hdep 6 rfl rfl 15 rfl
     obtain ⟨H, m⟩ := id hJ
     have hc19 := H.cell (u := (Sl Cf Cc.2 Cg)) (o' := 1) 5 1 rfl rfl rfl
     exact dp_v (v := (Sl Cf Cc.2 Cg)) wn (rv_load1 Try.underlying24 rfl e15 hc19) rfl hJ
    refine ⟨?_, ?_⟩
    ·rintro ⟨⟨⟨a11, c12⟩, ⟨b14, ⟨a17, c18⟩⟩⟩, ⟨⟨a23, ⟨c24, b25⟩⟩, ⟨a28, ⟨c29, b30⟩⟩⟩⟩ ρ σm hJ hoff hdep
     have e15 := hdep 6 rfl rfl 15 rfl
     obtain ⟨H, m⟩ := id hJ
     have hc19 := H.cell (u := (Sl Cf Cc.2 Cg)) (o' := 1) 5 1 rfl rfl rfl
     exact dp_v (v := (Sl Cf Cc.2 Cg)) wn (rv_load1 Try.underlying24 rfl e15 hc19) rfl hJ
    refine ⟨?_, ?_⟩
    ·rintro ⟨⟨⟨a11, c12⟩, ⟨b14, ⟨a17, c18⟩⟩⟩, ⟨⟨a23, ⟨c24, b25⟩⟩, ⟨a28, ⟨c29, b30⟩⟩⟩⟩ ρ σm hJ hoff hdep
     have e15 := hdep 6 rfl rfl 15 rfl
     obtain ⟨H, m⟩ := id hJ
     have hc19 := H.cell (u := (Sl Cf Cc.2 Cg)) (o' := 1) 5 1 rfl rfl rfl
     exact dp_v (v := (Sl Cf Cc.2 Cg)) wn (rv_load1 Try.underlying24 rfl e15 hc19) rfl hJ
    refine ⟨?_, ?_⟩
    ·rintro ⟨⟨⟨a11, c12⟩, ⟨b14, ⟨a17, c18⟩⟩⟩, ⟨⟨a23, ⟨c24, b25⟩⟩, ⟨a28, ⟨c29, b30⟩⟩⟩⟩ ρ σm hJ hoff hdep
     have e15 := hdep 6 rfl rfl 15 rfl
     obtain ⟨H, m⟩ := id hJ
     have hc19 := H.cell (u := (Sl Cf Cc.2 Cg)) (o' := 1) 5 1 rfl rfl rfl
     exact dp_v (v := (Sl Cf Cc.2 Cg)) wn (rv_load1 Try.underlying24 rfl e15 hc19) rfl hJ
    refine ⟨?_, ?_⟩
    ·rintro ⟨⟨⟨a11, c12⟩, ⟨b14, ⟨a17, c18⟩⟩⟩, ⟨⟨a23, ⟨c24, b25⟩⟩, ⟨a28, ⟨c29, b30⟩⟩⟩⟩ ρ σm hJ hoff hdep
     have e15 := hdep 6 rfl rfl 15 rfl
     obtain ⟨H, m⟩ := id hJ
     have hc19 := H.cell (u := (Sl Cf Cc.2 Cg)) (o' := 1) 5 1 rfl rfl rfl
     exact dp_v (v := (Sl Cf Cc.2 Cg)) wn (rv_load1 Try.underlying24 rfl e15 hc19) rfl hJ
    refine ⟨?_, ?_⟩
    ·rintro ⟨⟨⟨a11, c12⟩, ⟨b14, ⟨a17, c18⟩⟩⟩, ⟨⟨a23, ⟨c24, b25⟩⟩, ⟨a28, ⟨c29, b30⟩⟩⟩⟩ ρ σm hJ hoff hdep
     have e15 := hdep 6 rfl rfl 15 rfl
     obtain ⟨H, m⟩ := id hJ
     have hc19 := H.cell (u := (Sl Cf Cc.2 Cg)) (o' := 1) 5 1 rfl rfl rfl
     exact dp_v (v := (Sl Cf Cc.2 Cg)) wn (rv_load1 Try.underlying24 rfl e15 hc19) rfl hJ
    refine ⟨?_, ?_⟩
    ·rintro ⟨⟨⟨a11, c12⟩, ⟨b14, ⟨a17, c18⟩⟩⟩, ⟨⟨a23, ⟨c24, b25⟩⟩, ⟨a28, ⟨c29, b30⟩⟩⟩⟩ ρ σm hJ hoff hdep
     have e15 := hdep 6 rfl rfl 15 rfl
     obtain ⟨H, m⟩ := id hJ
     have hc19 := H.cell (u := (Sl Cf Cc.2 Cg)) (o' := 1) 6 1 rfl rfl rfl
     exact dp_v (v := (Sl Cf Cc.2 Cg)) wn (rv_load1 Try.underlying24 rfl e15 hc19) rfl hJ
    refine ⟨?_, ?_⟩
    ·rintro ⟨⟨⟨a11, c12⟩, ⟨b14, ⟨a17, c18⟩⟩⟩, ⟨⟨a23, ⟨c24, b25⟩⟩, ⟨a28, ⟨c29, b30⟩⟩⟩⟩ ρ σm hJ hoff hdep
     have e15 := hdep 6 rfl rfl 15 rfl
     obtain ⟨H, m⟩ := id hJ
     have hc19 := H.cell (u := (Sl Cf Cc.2 Cg)) (o' := 1) 6 1 rfl rfl rfl
     exact dp_v (v := (Sl Cf Cc.2 Cg)) wn (rv_load1 Try.underlying24 rfl e15 hc19) rfl hJ
    trivial) ?_
  refine all_cons (by
    refine ⟨?_, ?_⟩
    ·rintro ⟨⟨⟨a11, c12⟩, ⟨b14, ⟨a17, c18⟩⟩⟩, ⟨⟨a23, ⟨c24, b25⟩⟩, ⟨a28, ⟨c29, b30⟩⟩⟩⟩ ρ σm hJ hoff hdep
     have e16 : look 31 ρ 16 = (Sl Cf Cc.2 Cg) := hdep 7 rfl rfl 16 rfl
     obtain ⟨H, m⟩ := id hJ
     refine dp_cx wn (cx_call hc22 (ent_f hc22.fn (by show [look 31 ρ 16] = _; rw [e16])) hn0 (H.sel' [6, 0, 1, 2, 3, 4, 5, 6, 7] rfl rfl : Hp S0 σ0 _ ([_] ++ _))) ?_
     rintro _ σq ⟨_, ⟨a23x, c24x, rfl, rfl⟩, H2, m2⟩
     exact ⟨_, (((a11, c12), (b14, (a17, c18))), ((a23x, (c24x, b25)), (a28, (c29, b30)))), rfl, rfl, ⟨H2.sel' [0, 1, 2, 3, 4, 5, 6, 7, 8] rfl rfl, m.comp0 (m2.mono (fun i h => by simp [cov, Ch.ro] at h))⟩, stab [0, 1, 2, 3, 4, 5, 6, 7, 9, 10, 13] (by kernel_rfl) ⟨rfl, rfl, rfl, rfl, rfl, rfl, rfl, rfl, rfl, rfl, rfl, trivial⟩⟩
    refine ⟨?_, ?_⟩
    ·rintro ⟨⟨⟨a11, c12⟩, ⟨b14, ⟨a17, c18⟩⟩⟩, ⟨⟨a23, ⟨c24, b25⟩⟩, ⟨a28, ⟨c29, b30⟩⟩⟩⟩ ρ σm hJ hoff hdep
     have e16 : look 31 ρ 16 = (Sl Cf Cc.2 Cg) := hdep 7 rfl rfl 16 rfl
     obtain ⟨H, m⟩ := id hJ
     refine dp_cx wn (cx_call hc22 (ent_f hc22.fn (by show [look 31 ρ 16] = _; rw [e16])) hn0 (H.sel' [7, 0, 1, 2, 3, 4, 5, 6, 7, 8] rfl rfl : Hp S0 σ0 _ ([_] ++ _))) ?_
     rintro _ σq ⟨_, ⟨a23x, c24x, rfl, rfl⟩, H2, m2⟩
     exact ⟨_, (((a11, c12), (b14, (a17, c18))), ((a23x, (c24x, b25)), (a28, (c29, b30)))), rfl, rfl, ⟨H2.sel' [1, 0, 2, 3, 4, 5, 6, 7, 8, 9] rfl rfl, m.comp0 (m2.mono (fun i h => by simp [cov, Ch.ro] at h))⟩, stab [0, 1, 2, 3, 4, 5, 6, 7, 9, 10, 13] (by kernel_rfl) ⟨rfl, rfl, rfl, rfl, rfl, rfl, rfl, rfl, rfl, rfl, rfl, trivial⟩⟩
    refine ⟨?_, ?_⟩
    ·rintro ⟨⟨⟨a11, c12⟩, ⟨b14, ⟨a17, c18⟩⟩⟩, ⟨⟨a23, ⟨c24, b25⟩⟩, ⟨a28, ⟨c29, b30⟩⟩⟩⟩ ρ σm hJ hoff hdep
     have e16 : look 31 ρ 16 = (Sl Cf Cc.2 Cg) := hdep 7 rfl rfl 16 rfl
     obtain ⟨H, m⟩ := id hJ
     refine dp_cx wn (cx_call hc22 (ent_f hc22.fn (by show [look 31 ρ 16] = _; rw [e16])) hn0 (H.sel' [7, 0, 1, 2, 3, 4, 5, 6, 7, 8] rfl rfl : Hp S0 σ0 _ ([_] ++ _))) ?_
     rintro _ σq ⟨_, ⟨a23x, c24x, rfl, rfl⟩, H2, m2⟩
     exact ⟨_, (((a11, c12), (b14, (a17, c18))), ((a23x, (c24x, b25)), (a28, (c29, b30)))), rfl, rfl, ⟨H2.sel' [1, 0, 2, 3, 4, 5, 6, 7, 8, 9] rfl rfl, m.comp0 (m2.mono (fun i h => by simp [cov, Ch.ro] at h))⟩, stab [0, 1, 2, 3, 4, 5, 6, 7, 9, 10, 13] (by kernel_rfl) ⟨rfl, rfl, rfl, rfl, rfl, rfl, rfl, rfl, rfl, rfl, rfl, trivial⟩⟩
    refine ⟨?_, ?_⟩
    ·rintro ⟨⟨⟨a11, c12⟩, ⟨b14, ⟨a17, c18⟩⟩⟩, ⟨⟨a23, ⟨c24, b25⟩⟩, ⟨a28, ⟨c29, b30⟩⟩⟩⟩ ρ σm hJ hoff hdep
     have e16 : look 31 ρ 16 = (Sl Cf Cc.2 Cg) := hdep 7 rfl rfl 16 rfl
     obtain ⟨H, m⟩ := id hJ
     refine dp_cx wn (cx_call hc22 (ent_f hc22.fn (by show [look 31 ρ 16] = _; rw [e16])) hn0 (H.sel' [8, 0, 1, 2, 3, 4, 5, 6, 7, 8, 9] rfl rfl : Hp S0 σ0 _ ([_] ++ _))) ?_
     rintro _ σq ⟨_, ⟨a23x, c24x, rfl, rfl⟩, H2, m2⟩
     exact ⟨_, (((a11, c12), (b14, (a17, c18))), ((a23x, (c24x, b25)), (a28, (c29, b30)))), rfl, rfl, ⟨H2.sel' [1, 2, 0, 3, 4, 5, 6, 7, 8, 9, 10] rfl rfl, m.comp0 (m2.mono (fun i h => by simp [cov, Ch.ro] at h))⟩, stab [0, 1, 2, 3, 4, 5, 6, 7, 9, 10, 13] (by kernel_rfl) ⟨rfl, rfl, rfl, rfl, rfl, rfl, rfl, rfl, rfl, rfl, rfl, trivial⟩⟩
    trivial) ?_
  refine ac rfl (by
    intro k; rintro ⟨⟨⟨a11, c12⟩, ⟨b14, ⟨a17, c18⟩⟩⟩, ⟨⟨a23, ⟨c24, b25⟩⟩, ⟨a28, ⟨c29, b30⟩⟩⟩⟩ ρ σm hJ hoff hdep
    have e2 := look_off (N := 31) (hoff 2 rfl) rfl
    exact dp_v (v := (I Dn)) wn (rv_move e2) rfl hJ) ?_
  refine all_cons (by
    refine ⟨?_, ?_⟩
    ·rintro ⟨⟨⟨a11, c12⟩, ⟨b14, ⟨a17, c18⟩⟩⟩, ⟨⟨a23, ⟨c24, b25⟩⟩, ⟨a28, ⟨c29, b30⟩⟩⟩⟩ ρ σm hJ hoff hdep
     have e18 : look 31 ρ 18 = (I Dn) := hdep 9 rfl rfl 18 rfl
     obtain ⟨H, m⟩ := id hJ
     refine dp_ex wn (ex_buildSlice (el := n0) (xs := ([Dn] : List Int)) (ps := [(0, (I Dn))]) (cs := [(I Dn)]) H hn0 Try.underlying24 ti3 rfl (by show [(0, look 31 ρ 18)] = _; rw [e18]) (by kernel_rfl) (.cons (c := [(I Dn)]) rfl (.nil)) rfl) ?_
     rintro _ σq ⟨b25x, rfl, H2, m2⟩
     exact ⟨_, (((a11, c12), (b14, (a17, c18))), ((a23, (c24, b25x)), (a28, (c29, b30)))), rfl, rfl, ⟨H2.sel' [0, 1, 2, 3, 4, 5, 6] rfl rfl, m.comp0 m2⟩, stab [0, 1, 2, 3, 4, 5, 6, 7, 8, 9, 13] (by kernel_rfl) ⟨rfl, rfl, rfl, rfl, rfl, rfl, rfl, rfl, rfl, rfl, rfl, trivial⟩⟩
    refine ⟨?_, ?_⟩
    ·rintro ⟨⟨⟨a11, c12⟩, ⟨b14, ⟨a17, c18⟩⟩⟩, ⟨⟨a23, ⟨c24, b25⟩⟩, ⟨a28, ⟨c29, b30⟩⟩⟩⟩ ρ σm hJ hoff hdep
     have e18 : look 31 ρ 18 = (I Dn) := hdep 9 rfl rfl 18 rfl
     obtain ⟨H, m⟩ := id hJ
     refine dp_ex wn (ex_buildSlice (el := n0) (xs := ([Dn] : List Int)) (ps := [(0, (I Dn))]) (cs := [(I Dn)]) H hn0 Try.underlying24 ti3 rfl (by show [(0, look 31 ρ 18)] = _; rw [e18]) (by kernel_rfl) (.cons (c := [(I Dn)]) rfl (.nil)) rfl) ?_
     rintro _ σq ⟨b25x, rfl, H2, m2⟩
     exact ⟨_, (((a11, c12), (b14, (a17, c18))), ((a23, (c24, b25x)), (a28, (c29, b30)))), rfl, rfl, ⟨H2.sel' [0, 1, 2, 3, 4, 5, 6, 7] rfl rfl, m.comp0 m2⟩, stab [0, 1, 2, 3, 4, 5, 6, 7, 8, 9, 13] (by kernel_rfl) ⟨rfl, rfl, rfl, rfl, rfl, rfl, rfl, rfl, rfl, rfl, rfl, trivial⟩⟩
    refine ⟨?_, ?_⟩
    ·rintro ⟨⟨⟨a11, c12⟩, ⟨b14, ⟨a17, c18⟩⟩⟩, ⟨⟨a23, ⟨c24, b25⟩⟩, ⟨a28, ⟨c29, b30⟩⟩⟩⟩ ρ σm hJ hoff hdep
     have e18 : look 31 ρ 18 = (I Dn) := hdep 9 rfl rfl 18 rfl
     obtain ⟨H, m⟩ := id hJ
     refine dp_ex wn (ex_buildSlice (el := n0) (xs := ([Dn] : List Int)) (ps := [(0, (I Dn))]) (cs := [(I Dn)]) H hn0 Try.underlying24 ti3 rfl (by show [(0, look 31 ρ 18)] = _; rw [e18]) (by kernel_rfl) (.cons (c := [(I Dn)]) rfl (.nil)) rfl) ?_
     rintro _ σq ⟨b25x, rfl, H2, m2⟩
     exact ⟨_, (((a11, c12), (b14, (a17, c18))), ((a23, (c24, b25x)), (a28, (c29, b30)))), rfl, rfl, ⟨H2.sel' [0, 1, 2, 3, 4, 5, 6, 7] rfl rfl, m.comp0 m2⟩, stab [0, 1, 2, 3, 4, 5, 6, 7, 8, 9, 13] (by kernel_rfl) ⟨rfl, rfl, rfl, rfl, rfl, rfl, rfl, rfl, rfl, rfl, rfl, trivial⟩⟩
    refine ⟨?_, ?_⟩
    ·rintro ⟨⟨⟨a11, c12⟩, ⟨b14, ⟨a17, c18⟩⟩⟩, ⟨⟨a23, ⟨c24, b25⟩⟩, ⟨a28, ⟨c29, b30⟩⟩⟩⟩ ρ σm hJ hoff hdep
     have e18 : look 31 ρ 18 = (I Dn) := hdep 9 rfl rfl 18 rfl
     obtain ⟨H, m⟩ := id hJ
     refine dp_ex wn (ex_buildSlice (el := n0) (xs := ([Dn] : List Int)) (ps := [(0, (I Dn))]) (cs := [(I Dn)]) H hn0 Try.underlying24 ti3 rfl (by show [(0, look 31 ρ 18)] = _; rw [e18]) (by kernel_rfl) (.cons (c := [(I Dn)]) rfl (.nil)) rfl) ?_
     rintro _ σq ⟨b25x, rfl, H2, m2⟩
     exact ⟨_, (((a11, c12), (b14, (a17, c18))), ((a23, (c24, b25x)), (a28, (c29, b30)))), rfl, rfl, ⟨H2.sel' [1, 0, 2, 3, 4, 5, 6, 7] rfl rfl, m.comp0 m2⟩, stab [0, 1, 2, 3, 4, 5, 6, 7, 8, 9, 13] (by kernel_rfl) ⟨rfl, rfl, rfl, rfl, rfl, rfl, rfl, rfl, rfl, rfl, rfl, trivial⟩⟩
    refine ⟨?_, ?_⟩
    ·rintro ⟨⟨⟨a11, c12⟩, ⟨b14, ⟨a17, c18⟩⟩⟩, ⟨⟨a23, ⟨c24, b25⟩⟩, ⟨a28, ⟨c29, b30⟩⟩⟩⟩ ρ σm hJ hoff hdep
     have e18 : look 31 ρ 18 = (I Dn) := hdep 9 rfl rfl 18 rfl
     obtain ⟨H, m⟩ := id hJ
     refine dp_ex wn (ex_buildSlice (el := n0) (xs := ([Dn] : List Int)) (ps := [(0, (I Dn))]) (cs := [(I Dn)]) H hn0 Try.underlying24 ti3 rfl (by show [(0, look 31 ρ 18)] = _; rw [e18]) (by kernel_rfl) (.cons (c := [(I Dn)]) rfl (.nil)) rfl) ?_
     rintro _ σq ⟨b25x, rfl, H2, m2⟩
     exact ⟨_, (((a11, c12), (b14, (a17, c18))), ((a23, (c24, b25x)), (a28, (c29, b30)))), rfl, rfl, ⟨H2.sel' [0, 1, 2, 3, 4, 5, 6, 7, 8] rfl rfl, m.comp0 m2⟩, stab [0, 1, 2, 3, 4, 5, 6, 7, 8, 9, 13] (by kernel_rfl) ⟨rfl, rfl, rfl, rfl, rfl, rfl, rfl, rfl, rfl, rfl, rfl, trivial⟩⟩
    refine ⟨?_, ?_⟩
    ·rintro ⟨⟨⟨a11, c12⟩, ⟨b14, ⟨a17, c18⟩⟩⟩, ⟨⟨a23, ⟨c24, b25⟩⟩, ⟨a28, ⟨c29, b30⟩⟩⟩⟩ ρ σm hJ hoff hdep
     have e18 : look 31 ρ 18 = (I Dn) := hdep 9 rfl rfl 18 rfl
     obtain ⟨H, m⟩ := id hJ
     refine dp_ex wn (ex_buildSlice (el := n0) (xs := ([Dn] : List Int)) (ps := [(0, (I Dn))]) (cs := [(I Dn)]) H hn0 Try.underlying24 ti3 rfl (by show [(0, look 31 ρ 18)] = _; rw [e18]) (by kernel_rfl) (.cons (c := [(I Dn)]) rfl (.nil)) rfl) ?_
     rintro _ σq ⟨b25x, rfl, H2, m2⟩
     exact ⟨_, (((a11, c12), (b14, (a17, c18))), ((a23, (c24, b25x)), (a28, (c29, b30)))), rfl, rfl, ⟨H2.sel' [1, 0, 2, 3, 4, 5, 6, 7, 8] rfl rfl, m.comp0 m2⟩, stab [0, 1, 2, 3, 4, 5, 6, 7, 8, 9, 13] (by kernel_rfl) ⟨rfl, rfl, rfl, rfl, rfl, rfl, rfl, rfl, rfl, rfl, rfl, trivial⟩⟩
    refine ⟨?_, ?_⟩
    ·rintro ⟨⟨⟨a11, c12⟩, ⟨b14, ⟨a17, c18⟩⟩⟩, ⟨⟨a23, ⟨c24, b25⟩⟩, ⟨a28, ⟨c29, b30⟩⟩⟩⟩ ρ σm hJ hoff hdep
     have e18 : look 31 ρ 18 = (I Dn) := hdep 9 rfl rfl 18 rfl
     obtain ⟨H, m⟩ := id hJ
     refine dp_ex wn (ex_buildSlice (el := n0) (xs := ([Dn] : List Int)) (ps := [(0, (I Dn))]) (cs := [(I Dn)]) H hn0 Try.underlying24 ti3 rfl (by show [(0, look 31 ρ 18)] = _; rw [e18]) (by kernel_rfl) (.cons (c := [(I Dn)]) rfl (.nil)) rfl) ?_
     rintro _ σq ⟨b25x, rfl, H2, m2⟩
     exact ⟨_, (((a11, c12), (b14, (a17, c18))), ((a23, (c24, b25x)), (a28, (c29, b30)))), rfl, rfl, ⟨H2.sel' [1, 0, 2, 3, 4, 5, 6, 7, 8] rfl rfl, m.comp0 m2⟩, stab [0, 1, 2, 3, 4, 5, 6, 7, 8, 9, 13] (by kernel_rfl) ⟨rfl, rfl, rfl, rfl, rfl, rfl, rfl, rfl, rfl, rfl, rfl, trivial⟩⟩
    refine ⟨?_, ?_⟩
    ·rintro ⟨⟨⟨a11, c12⟩, ⟨b14, ⟨a17, c18⟩⟩⟩, ⟨⟨a23, ⟨c24, b25⟩⟩, ⟨a28, ⟨c29, b30⟩⟩⟩⟩ ρ σm hJ hoff hdep
     have e18 : look 31 ρ 18 = (I Dn) := hdep 9 rfl rfl 18 rfl
     obtain ⟨H, m⟩ := id hJ
     refine dp_ex wn (ex_buildSlice (el := n0) (xs := ([Dn] : List Int)) (ps := [(0, (I Dn))]) (cs := [(I Dn)]) H hn0 Try.underlying24 ti3 rfl (by show [(0, look 31 ρ 18)] = _; rw [e18]) (by kernel_rfl) (.cons (c := [(I Dn)]) rfl (.nil)) rfl) ?_
     rintro _ σq ⟨b25x, rfl, H2, m2⟩
     exact ⟨_, (((a11, c12), (b14, (a17, c18))), ((a23, (c24, b25x)), (a28, (c29, b30)))), rfl, rfl, ⟨H2.sel' [0, 1, 2, 3, 4, 5, 6, 7, 8] rfl rfl, m.comp0 m2⟩, stab [0, 1, 2, 3, 4, 5, 6, 7, 8, 9, 13] (by kernel_rfl) ⟨rfl, rfl, rfl, rfl, rfl, rfl, rfl, rfl, rfl, rfl, rfl, trivial⟩⟩
    refine ⟨?_, ?_⟩
    ·rintro ⟨⟨⟨a11, c12⟩, ⟨b14, ⟨a17, c18⟩⟩⟩, ⟨⟨a23, ⟨c24, b25⟩⟩, ⟨a28, ⟨c29, b30⟩⟩⟩⟩ ρ σm hJ hoff hdep
     have e18 : look 31 ρ 18 = (I Dn) := hdep 9 rfl rfl 18 rfl
     obtain ⟨H, m⟩ := id hJ
     refine dp_ex wn (ex_buildSlice (el := n0) (xs := ([Dn] : List Int)) (ps := [(0, (I Dn))]) (cs := [(I Dn)]) H hn0 Try.underlying24 ti3 rfl (by show [(0, look 31 ρ 18)] = _; rw [e18]) (by kernel_rfl) (.cons (c := [(I Dn)]) rfl (.nil)) rfl) ?_
     rintro _ σq ⟨b25x, rfl, H2, m2⟩
     exact ⟨_, (((a11, c12), (b14, (a17, c18))), ((a23, (c24, b25x)), (a28, (c29, b30)))), rfl, rfl, ⟨H2.sel' [1, 0, 2, 3, 4, 5, 6, 7, 8, 9] rfl rfl, m.comp0 m2⟩, stab [0, 1, 2, 3, 4, 5, 6, 7, 8, 9, 13] (by kernel_rfl) ⟨rfl, rfl, rfl, rfl, rfl, rfl, rfl, rfl, rfl, rfl, rfl, trivial⟩⟩
    refine ⟨?_, ?_⟩
    ·rintro ⟨⟨⟨a11, c12⟩, ⟨b14, ⟨a17, c18⟩⟩⟩, ⟨⟨a23, ⟨c24, b25⟩⟩, ⟨a28, ⟨c29, b30⟩⟩⟩⟩ ρ σm hJ hoff hdep
     have e18 : look 31 ρ 18 = (I Dn) := hdep 9 rfl rfl 18 rfl
     obtain ⟨H, m⟩ := id hJ
     refine dp_ex wn (ex_buildSlice (el := n0) (xs := ([Dn] : List Int)) (ps := [(0, (I Dn))]) (cs := [(I Dn)]) H hn0 Try.underlying24 ti3 rfl (by show [(0, look 31 ρ 18)] = _; rw [e18]) (by kernel_rfl) (.cons (c := [(I Dn)]) rfl (.nil)) rfl) ?_
     rintro _ σq ⟨b25x, rfl, H2, m2⟩
     exact ⟨_, (((a11, c12), (b14, (a17, c18))), ((a23, (c24, b25x)), (a28, (c29, b30)))), rfl, rfl, ⟨H2.sel' [0, 1, 2, 3, 4, 5, 6, 7, 8, 9] rfl rfl, m.comp0 m2⟩, stab [0, 1, 2, 3, 4, 5, 6, 7, 8, 9, 13] (by kernel_rfl) ⟨rfl, rfl, rfl, rfl, rfl, rfl, rfl, rfl, rfl, rfl, rfl, trivial⟩⟩
    refine ⟨?_, ?_⟩
    ·rintro ⟨⟨⟨a11, c12⟩, ⟨b14, ⟨a17, c18⟩⟩⟩, ⟨⟨a23, ⟨c24, b25⟩⟩, ⟨a28, ⟨c29, b30⟩⟩⟩⟩ ρ σm hJ hoff hdep
     have e18 : look 31 ρ 18 = (I Dn) := hdep 9 rfl rfl 18 rfl
     obtain ⟨H, m⟩ := id hJ
     refine dp_ex wn (ex_buildSlice (el := n0) (xs := ([Dn] : List Int)) (ps := [(0, (I Dn))]) (cs := [(I Dn)]) H hn0 Try.underlying24 ti3 rfl (by show [(0, look 31 ρ 18)] = _; rw [e18]) (by kernel_rfl) (.cons (c := [(I Dn)]) rfl (.nil)) rfl) ?_
     rintro _ σq ⟨b25x, rfl, H2, m2⟩
     exact ⟨_, (((a11, c12), (b14, (a17, c18))), ((a23, (c24, b25x)), (a28, (c29, b30)))), rfl, rfl, ⟨H2.sel' [1, 0, 2, 3, 4, 5, 6, 7, 8, 9] rfl rfl, m.comp0 m2⟩, stab [0, 1, 2, 3, 4, 5, 6, 7, 8, 9, 13] (by kernel_rfl) ⟨rfl, rfl, rfl, rfl, rfl, rfl, rfl, rfl, rfl, rfl, rfl, trivial⟩⟩
    refine ⟨?_, ?_⟩
    ·rintro ⟨⟨⟨a11, c12⟩, ⟨b14, ⟨a17, c18⟩⟩⟩, ⟨⟨a23, ⟨c24, b25⟩⟩, ⟨a28, ⟨c29, b30⟩⟩⟩⟩ ρ σm hJ hoff hdep
     have e18 : look 31 ρ 18 = (I Dn) := hdep 9 rfl rfl 18 rfl
     obtain ⟨H, m⟩ := id hJ
     refine dp_ex wn (ex_buildSlice (el := n0) (xs := ([Dn] : List Int)) (ps := [(0, (I Dn))]) (cs := [(I Dn)]) H hn0 Try.underlying24 ti3 rfl (by show [(0, look 31 ρ 18)] = _; rw [e18]) (by kernel_rfl) (.cons (c := [(I Dn)]) rfl (.nil)) rfl) ?_
     rintro _ σq ⟨b25x, rfl, H2, m2⟩
     exact ⟨_, (((a11, c12), (b14, (a17, c18))), ((a23, (c24, b25x)), (a28, (c29, b30)))), rfl, rfl, ⟨H2.sel' [1, 0, 2, 3, 4, 5, 6, 7, 8, 9, 10] rfl rfl, m.comp0 m2⟩, stab [0, 1, 2, 3, 4, 5, 6, 7, 8, 9, 13] (by kernel_rfl) ⟨rfl, rfl, rfl, rfl, rfl, rfl, rfl, rfl, rfl, rfl, rfl, trivial⟩⟩
    trivial) ?_
  refine all_cons (by
    refine ⟨?_, ?_⟩
    ·rintro ⟨⟨⟨a11, c12⟩, ⟨b14, ⟨a17, c18⟩⟩⟩, ⟨⟨a23, ⟨c24, b25⟩⟩, ⟨a28, ⟨c29, b30⟩⟩⟩⟩ ρ σm hJ hoff hdep
     have e17 := hdep 8 rfl rfl 17 rfl
     have e19 := hdep 10 rfl rfl 19 rfl
     obtain ⟨H, m⟩ := id hJ
     refine dp_ex wn (ex_append H (i := 1) rfl Try.underlying24 Try.underlying24 ti3 rfl rfl (by decide) (H.own 0 rfl).rd hx27 hn0 e17 e19) ?_
     rintro _ σq ⟨a28x, c29x, rfl, H2, m2⟩
     exact ⟨_, (((a11, c12), (b14, (a17, c18))), ((a23, (c24, b25)), (a28x, (c29x, b30)))), rfl, rfl, ⟨H2.sel' [0, 1, 2, 3, 4, 5, 6, 7, 8, 9] rfl rfl, m.comp m2⟩, stab [0, 1, 2, 3, 4, 5, 6, 7, 8, 9, 10, 13] (by kernel_rfl) ⟨rfl, rfl, rfl, rfl, rfl, rfl, rfl, rfl, rfl, rfl, rfl, rfl, trivial⟩⟩
    refine ⟨?_, ?_⟩
    ·rintro ⟨⟨⟨a11, c12⟩, ⟨b14, ⟨a17, c18⟩⟩⟩, ⟨⟨a23, ⟨c24, b25⟩⟩, ⟨a28, ⟨c29, b30⟩⟩⟩⟩ ρ σm hJ hoff hdep
     have e17 := hdep 8 rfl rfl 17 rfl
     have e19 := hdep 10 rfl rfl 19 rfl
     obtain ⟨H, m⟩ := id hJ
     refine dp_ex wn (ex_append H (i := 2) rfl Try.underlying24 Try.underlying24 ti3 rfl rfl (by decide) (H.own 1 rfl).rd hx27 hn0 e17 e19) ?_
     rintro _ σq ⟨a28x, c29x, rfl, H2, m2⟩
     exact ⟨_, (((a11, c12), (b14, (a17, c18))), ((a23, (c24, b25)), (a28x, (c29x, b30)))), rfl, rfl, ⟨H2.sel' [1, 0, 2, 3, 4, 5, 6, 7, 8, 9, 10] rfl rfl, m.comp m2⟩, stab [0, 1, 2, 3, 4, 5, 6, 7, 8, 9, 10, 13] (by kernel_rfl) ⟨rfl, rfl, rfl, rfl, rfl, rfl, rfl, rfl, rfl, rfl, rfl, rfl, trivial⟩⟩
    trivial) ?_
  refine ac rfl (by
    intro k; rintro ⟨⟨⟨a11, c12⟩, ⟨b14, ⟨a17, c18⟩⟩⟩, ⟨⟨a23, ⟨c24, b25⟩⟩, ⟨a28, ⟨c29, b30⟩⟩⟩⟩ ρ σm hJ hoff hdep
    have e14 : look 31 ρ 14 = (Sl a17 xs15 c18) := hdep 5 rfl rfl 14 rfl
    have e20 : look 31 ρ 20 = (Sl a28 xs26 c29) := hdep 11 rfl rfl 20 rfl
    exact dp_v (v := (.agg #[(Sl a17 xs15 c18), (Sl a28 xs26 c29)])) wn (rv_build (ps := [(0, (Sl a17 xs15 c18)), (1, (Sl a28 xs26 c29))]) Try.underlying26 ti26 (bp26 Try.underlying26) (by show [(0, look 31 ρ 14), (1, look 31 ρ 20)] = _; rw [e14, e20]) (by kernel_rfl)) rfl hJ) ?_
  refine all_cons (by
    refine ⟨?_, ?_⟩
    ·rintro ⟨⟨⟨a11, c12⟩, ⟨b14, ⟨a17, c18⟩⟩⟩, ⟨⟨a23, ⟨c24, b25⟩⟩, ⟨a28, ⟨c29, b30⟩⟩⟩⟩ ρ σm hJ hoff hdep
     obtain ⟨H, m⟩ := id hJ
     refine dp_ex wn (ex_alloc (cs := [(.slice none 0 0), (.slice none 0 0)]) H hn0 ti26 rfl) ?_
     rintro _ σq ⟨b30x, rfl, H2, m2⟩
     exact ⟨_, (((a11, c12), (b14, (a17, c18))), ((a23, (c24, b25)), (a28, (c29, b30x)))), rfl, rfl, ⟨H2.sel' [0, 1, 2, 3, 4, 5, 6] rfl rfl, m.comp0 m2⟩, stab [0, 1, 2, 3, 4, 5, 6, 7, 8, 9, 10, 11, 12] (by kernel_rfl) ⟨rfl, rfl, rfl, rfl, rfl, rfl, rfl, rfl, rfl, rfl, rfl, rfl, rfl, trivial⟩⟩
    refine ⟨?_, ?_⟩
    ·rintro ⟨⟨⟨a11, c12⟩, ⟨b14, ⟨a17, c18⟩⟩⟩, ⟨⟨a23, ⟨c24, b25⟩⟩, ⟨a28, ⟨c29, b30⟩⟩⟩⟩ ρ σm hJ hoff hdep
     obtain ⟨H, m⟩ := id hJ
     refine dp_ex wn (ex_alloc (cs := [(.slice none 0 0), (.slice none 0 0)]) H hn0 ti26 rfl) ?_
     rintro _ σq ⟨b30x, rfl, H2, m2⟩
     exact ⟨_, (((a11, c12), (b14, (a17, c18))), ((a23, (c24, b25)), (a28, (c29, b30x)))), rfl, rfl, ⟨H2.sel' [0, 1, 2, 3, 4, 5, 6, 7] rfl rfl, m.comp0 m2⟩, stab [0, 1, 2, 3, 4, 5, 6, 7, 8, 9, 10, 11, 12] (by kernel_rfl) ⟨rfl, rfl, rfl, rfl, rfl, rfl, rfl, rfl, rfl, rfl, rfl, rfl, rfl, trivial⟩⟩
    refine ⟨?_, ?_⟩
    ·rintro ⟨⟨⟨a11, c12⟩, ⟨b14, ⟨a17, c18⟩⟩⟩, ⟨⟨a23, ⟨c24, b25⟩⟩, ⟨a28, ⟨c29, b30⟩⟩⟩⟩ ρ σm hJ hoff hdep
     obtain ⟨H, m⟩ := id hJ
     refine dp_ex wn (ex_alloc (cs := [(.slice none 0 0), (.slice none 0 0)]) H hn0 ti26 rfl) ?_
     rintro _ σq ⟨b30x, rfl, H2, m2⟩
     exact ⟨_, (((a11, c12), (b14, (a17, c18))), ((a23, (c24, b25)), (a28, (c29, b30x)))), rfl, rfl, ⟨H2.sel' [0, 1, 2, 3, 4, 5, 6, 7] rfl rfl, m.comp0 m2⟩, stab [0, 1, 2, 3, 4, 5, 6, 7, 8, 9, 10, 11, 12] (by kernel_rfl) ⟨rfl, rfl, rfl, rfl, rfl, rfl, rfl, rfl, rfl, rfl, rfl, rfl, rfl, trivial⟩⟩
    refine ⟨?_, ?_⟩
    ·rintro ⟨⟨⟨a11, c12⟩, ⟨b14, ⟨a17, c18⟩⟩⟩, ⟨⟨a23, ⟨c24, b25⟩⟩, ⟨a28, ⟨c29, b30⟩⟩⟩⟩ ρ σm hJ hoff hdep
     obtain ⟨H, m⟩ := id hJ
     refine dp_ex wn (ex_alloc (cs := [(.slice none 0 0), (.slice none 0 0)]) H hn0 ti26 rfl) ?_
     rintro _ σq ⟨b30x, rfl, H2, m2⟩
     exact ⟨_, (((a11, c12), (b14, (a17, c18))), ((a23, (c24, b25)), (a28, (c29, b30x)))), rfl, rfl, ⟨H2.sel' [0, 1, 2, 3, 4, 5, 6, 7] rfl rfl, m.comp0 m2⟩, stab [0, 1, 2, 3, 4, 5, 6, 7, 8, 9, 10, 11, 12] (by kernel_rfl) ⟨rfl, rfl, rfl, rfl, rfl, rfl, rfl, rfl, rfl, rfl, rfl, rfl, rfl, trivial⟩⟩
    refine ⟨?_, ?_⟩
    ·rintro ⟨⟨⟨a11, c12⟩, ⟨b14, ⟨a17, c18⟩⟩⟩, ⟨⟨a23, ⟨c24, b25⟩⟩, ⟨a28, ⟨c29, b30⟩⟩⟩⟩ ρ σm hJ hoff hdep
     obtain ⟨H, m⟩ := id hJ
     refine dp_ex wn (ex_alloc (cs := [(.slice none 0 0), (.slice none 0 0)]) H hn0 ti26 rfl) ?_
     rintro _ σq ⟨b30x, rfl, H2, m2⟩
     exact ⟨_, (((a11, c12), (b14, (a17, c18))), ((a23, (c24, b25)), (a28, (c29, b30x)))), rfl, rfl, ⟨H2.sel' [0, 1, 2, 3, 4, 5, 6, 7, 8] rfl rfl, m.comp0 m2⟩, stab [0, 1, 2, 3, 4, 5, 6, 7, 8, 9, 10, 11, 12] (by kernel_rfl) ⟨rfl, rfl, rfl, rfl, rfl, rfl, rfl, rfl, rfl, rfl, rfl, rfl, rfl, trivial⟩⟩
    refine ⟨?_, ?_⟩
    ·rintro ⟨⟨⟨a11, c12⟩, ⟨b14, ⟨a17, c18⟩⟩⟩, ⟨⟨a23, ⟨c24, b25⟩⟩, ⟨a28, ⟨c29, b30⟩⟩⟩⟩ ρ σm hJ hoff hdep
     obtain ⟨H, m⟩ := id hJ
     refine dp_ex wn (ex_alloc (cs := [(.slice none 0 0), (.slice none 0 0)]) H hn0 ti26 rfl) ?_
     rintro _ σq ⟨b30x, rfl, H2, m2⟩
     exact ⟨_, (((a11, c12), (b14, (a17, c18))), ((a23, (c24, b25)), (a28, (c29, b30x)))), rfl, rfl, ⟨H2.sel' [0, 1, 2, 3, 4, 5, 6, 7, 8] rfl rfl, m.comp0 m2⟩, stab [0, 1, 2, 3, 4, 5, 6, 7, 8, 9, 10, 11, 12] (by kernel_rfl) ⟨rfl, rfl, rfl, rfl, rfl, rfl, rfl, rfl, rfl, rfl, rfl, rfl, rfl, trivial⟩⟩
    refine ⟨?_, ?_⟩
    ·rintro ⟨⟨⟨a11, c12⟩, ⟨b14, ⟨a17, c18⟩⟩⟩, ⟨⟨a23, ⟨c24, b25⟩⟩, ⟨a28, ⟨c29, b30⟩⟩⟩⟩ ρ σm hJ hoff hdep
     obtain ⟨H, m⟩ := id hJ
     refine dp_ex wn (ex_alloc (cs := [(.slice none 0 0), (.slice none 0 0)]) H hn0 ti26 rfl) ?_
     rintro _ σq ⟨b30x, rfl, H2, m2⟩
     exact ⟨_, (((a11, c12), (b14, (a17, c18))), ((a23, (c24, b25)), (a28, (c29, b30x)))), rfl, rfl, ⟨H2.sel' [0, 1, 2, 3, 4, 5, 6, 7, 8] rfl rfl, m.comp0 m2⟩, stab [0, 1, 2, 3, 4, 5, 6, 7, 8, 9, 10, 11, 12] (by kernel_rfl) ⟨rfl, rfl, rfl, rfl, rfl, rfl, rfl, rfl, rfl, rfl, rfl, rfl, rfl, trivial⟩⟩
    refine ⟨?_, ?_⟩
    ·rintro ⟨⟨⟨a11, c12⟩, ⟨b14, ⟨a17, c18⟩⟩⟩, ⟨⟨a23, ⟨c24, b25⟩⟩, ⟨a28, ⟨c29, b30⟩⟩⟩⟩ ρ σm hJ hoff hdep
     obtain ⟨H, m⟩ := id hJ
     refine dp_ex wn (ex_alloc (cs := [(.slice none 0 0), (.slice none 0 0)]) H hn0 ti26 rfl) ?_
     rintro _ σq ⟨b30x, rfl, H2, m2⟩
     exact ⟨_, (((a11, c12), (b14, (a17, c18))), ((a23, (c24, b25)), (a28, (c29, b30x)))), rfl, rfl, ⟨H2.sel' [0, 1, 2, 3, 4, 5, 6, 7, 8] rfl rfl, m.comp0 m2⟩, stab [0, 1, 2, 3, 4, 5, 6, 7, 8, 9, 10, 11, 12] (by kernel_rfl) ⟨rfl, rfl, rfl, rfl, rfl, rfl, rfl, rfl, rfl, rfl, rfl, rfl, rfl, trivial⟩⟩
    refine ⟨?_, ?_⟩
    ·rintro ⟨⟨⟨a11, c12⟩, ⟨b14, ⟨a17, c18⟩⟩⟩, ⟨⟨a23, ⟨c24, b25⟩⟩, ⟨a28, ⟨c29, b30⟩⟩⟩⟩ ρ σm hJ hoff hdep
     obtain ⟨H, m⟩ := id hJ
     refine dp_ex wn (ex_alloc (cs := [(.slice none 0 0), (.slice none 0 0)]) H hn0 ti26 rfl) ?_
     rintro _ σq ⟨b30x, rfl, H2, m2⟩
     exact ⟨_, (((a11, c12), (b14, (a17, c18))), ((a23, (c24, b25)), (a28, (c29, b30x)))), rfl, rfl, ⟨H2.sel' [0, 1, 2, 3, 4, 5, 6, 7, 8, 9] rfl rfl, m.comp0 m2⟩, stab [0, 1, 2, 3, 4, 5, 6, 7, 8, 9, 10, 11, 12] (by kernel_rfl) ⟨rfl, rfl, rfl, rfl, rfl, rfl, rfl, rfl, rfl, rfl, rfl, rfl, rfl, trivial⟩⟩
    refine ⟨?_, ?_⟩
    ·rintro ⟨⟨⟨a11, c12⟩, ⟨b14, ⟨a17, c18⟩⟩⟩, ⟨⟨a23, ⟨c24, b25⟩⟩, ⟨a28, ⟨c29, b30⟩⟩⟩⟩ ρ σm hJ hoff hdep
     obtain ⟨H, m⟩ := id hJ
     refine dp_ex wn (ex_alloc (cs := [(.slice none 0 0), (.slice none 0 0)]) H hn0 ti26 rfl) ?_
     rintro _ σq ⟨b30x, rfl, H2, m2⟩
     exact ⟨_, (((a11, c12), (b14, (a17, c18))), ((a23, (c24, b25)), (a28, (c29, b30x)))), rfl, rfl, ⟨H2.sel' [0, 1, 2, 3, 4, 5, 6, 7, 8, 9] rfl rfl, m.comp0 m2⟩, stab [0, 1, 2, 3, 4, 5, 6, 7, 8, 9, 10, 11, 12] (by kernel_rfl) ⟨rfl, rfl, rfl, rfl, rfl, rfl, rfl, rfl, rfl, rfl, rfl, rfl, rfl, trivial⟩⟩
    refine ⟨?_, ?_⟩
    ·rintro ⟨⟨⟨a11, c12⟩, ⟨b14, ⟨a17, c18⟩⟩⟩, ⟨⟨a23, ⟨c24, b25⟩⟩, ⟨a28, ⟨c29, b30⟩⟩⟩⟩ ρ σm hJ hoff hdep
     obtain ⟨H, m⟩ := id hJ
     refine dp_ex wn (ex_alloc (cs := [(.slice none 0 0), (.slice none 0 0)]) H hn0 ti26 rfl) ?_
     rintro _ σq ⟨b30x, rfl, H2, m2⟩
     exact ⟨_, (((a11, c12), (b14, (a17, c18))), ((a23, (c24, b25)), (a28, (c29, b30x)))), rfl, rfl, ⟨H2.sel' [0, 1, 2, 3, 4, 5, 6, 7, 8, 9] rfl rfl, m.comp0 m2⟩, stab [0, 1, 2, 3, 4, 5, 6, 7, 8, 9, 10, 11, 12] (by kernel_rfl) ⟨rfl, rfl, rfl, rfl, rfl, rfl, rfl, rfl, rfl, rfl, rfl, rfl, rfl, trivial⟩⟩
    refine ⟨?_, ?_⟩
    ·rintro ⟨⟨⟨a11, c12⟩, ⟨b14, ⟨a17, c18⟩⟩⟩, ⟨⟨a23, ⟨c24, b25⟩⟩, ⟨a28, ⟨c29, b30⟩⟩⟩⟩ ρ σm hJ hoff hdep
     obtain ⟨H, m⟩ := id hJ
     refine dp_ex wn (ex_alloc (cs := [(.slice none 0 0), (.slice none 0 0)]) H hn0 ti26 rfl) ?_
     rintro _ σq ⟨b30x, rfl, H2, m2⟩
     exact ⟨_, (((a11, c12), (b14, (a17, c18))), ((a23, (c24, b25)), (a28, (c29, b30x)))), rfl, rfl, ⟨H2.sel' [0, 1, 2, 3, 4, 5, 6, 7, 8, 9, 10] rfl rfl, m.comp0 m2⟩, stab [0, 1, 2, 3, 4, 5, 6, 7, 8, 9, 10, 11, 12] (by kernel_rfl) ⟨rfl, rfl, rfl, rfl, rfl, rfl, rfl, rfl, rfl, rfl, rfl, rfl, rfl, trivial⟩⟩
    refine ⟨?_, ?_⟩
    ·rintro ⟨⟨⟨a11, c12⟩, ⟨b14, ⟨a17, c18⟩⟩⟩, ⟨⟨a23, ⟨c24, b25⟩⟩, ⟨a28, ⟨c29, b30⟩⟩⟩⟩ ρ σm hJ hoff hdep
     obtain ⟨H, m⟩ := id hJ
     refine dp_ex wn (ex_alloc (cs := [(.slice none 0 0), (.slice none 0 0)]) H hn0 ti26 rfl) ?_
     rintro _ σq ⟨b30x, rfl, H2, m2⟩
     exact ⟨_, (((a11, c12), (b14, (a17, c18))), ((a23, (c24, b25)), (a28, (c29, b30x)))), rfl, rfl, ⟨H2.sel' [0, 1, 2, 3, 4, 5, 6, 7, 8, 9, 10] rfl rfl, m.comp0 m2⟩, stab [0, 1, 2, 3, 4, 5, 6, 7, 8, 9, 10, 11, 12] (by kernel_rfl) ⟨rfl, rfl, rfl, rfl, rfl, rfl, rfl, rfl, rfl, rfl, rfl, rfl, rfl, trivial⟩⟩
    trivial) ?_
  exact all_nil
 ·rintro ⟨⟨⟨a11, c12⟩, ⟨b14, ⟨a17, c18⟩⟩⟩, ⟨⟨a23, ⟨c24, b25⟩⟩, ⟨a28, ⟨c29, b30⟩⟩⟩⟩ ρ σ31 hJ hoff hrel
  have e6 := look_off (N := 31) (hoff 6 rfl) rfl
  have e8 := hrel 13 rfl 8 rfl
  have e21 := hrel 12 rfl 21 rfl
  obtain ⟨H, -⟩ := (show Hp S0 σ0 σ31 [Ch.bx n0 b30 0 [(.slice none 0 0), (.slice none 0 0)] [] [], Ch.own n0 n0 (Sl a28 xs26 c29) xs26, Ch.own n0 n0 (Sl (some ⟨b25, 0, none⟩) ([Dn] : List Int) 1) ([Dn] : List Int), Ch.own n0 0 (Sl a17 xs15 c18) xs15, Ch.own n0 0 (Sl (some ⟨b14, 0, none⟩) ([(Cm.1, (Cm.2.1, Cm.2.2.1, Cm.2.2.2))] : List (Int × (Int × (List Int) × Int))) 1) ([(Cm.1, (Cm.2.1, Cm.2.2.1, Cm.2.2.2))] : List (Int × (Int × (List Int) × Int))), Ch.bx n0 b5 0 [(.slice none 0 0), (.slice none 0 0)] [] [], Ch.bx n0 b3 0 [(I Cm.1), (I Cm.2.1), (Sl Cn Cm.2.2.1 Cp), (I Cm.2.2.2)] [] [], Ch.bx n0 b1 0 [(Sl Cd Cc.1 Ce), (Sl Cf Cc.2 Cg)] [] [], Ch.ro 0 (Sl Cd Cc.1 Ce) Cc.1, Ch.ro 0 (Sl Cf Cc.2 Cg) Cc.2, Ch.ro 0 (Sl Cn Cm.2.2.1 Cp) Cm.2.2.1] ∧ Md (fun i => (fun i => (cov []) i ∨ (fun b => blk (Sl a11 r8 c12) = some b) i) i ∨ (fun b => blk (Sl a23 r20 c24) = some b) i) σ6 σ31 from hJ)
  clear hJ Hs
  rw [fr_lookL (L := [(6, (pt b5 0)), (8, (pt b30 0)), (21, (.agg #[(Sl a17 xs15 c18), (Sl a28 xs26 c29)]))]) ⟨e6, e8, e21, trivial⟩]
  clear hoff hrel e6 e8 e21
  refine st_exS (ex_store_box (k := 0) (cs := [(.slice none 0 0), (.slice none 0 0)]) (vs := [(Sl a17 xs15 c18), (Sl a28 xs26 c29)]) (cs' := [(Sl a17 xs15 c18), (Sl a28 xs26 c29)]) H (i := 0) rfl ti26 rfl rfl rfl rfl rfl (Nat.le_of_ble_eq_true rfl) (by simp [plain]) rfl) wn ?_
  rintro σ32 ⟨H, -⟩
  replace H : Hp S0 σ0 σ32 [Ch.bx n0 b30 0 [(Sl a17 xs15 c18), (Sl a28 xs26 c29)] [] [], Ch.own n0 n0 (Sl a28 xs26 c29) xs26, Ch.own n0 0 (Sl a17 xs15 c18) xs15, Ch.bx n0 b5 0 [(.slice none 0 0), (.slice none 0 0)] [] []] := H.sel' [0, 1, 3, 5] rfl rfl
  refine w_end (q_then (c_seq (c_seq (rg ?_))))
  have hc33 := H.cells 0 rfl
  refine st (v := (.agg #[(Sl a17 xs15 c18), (Sl a28 xs26 c29)])) (rv_load (cs := [(Sl a17 xs15 c18), (Sl a28 xs26 c29)]) Try.underlying26 rfl ti26 rfl rfl hc33) ?_
  revert h; refine br fun r34 hx35 h => ?_
  have hc36 := c_impl_ValidHistory (Cd := a17) (Ce := c18) (Cf := a28) (Cg := c29) hx35
  have hle := Nat.le_trans hn0 H.size
  refine st_call (cx_lend (Loan.lend (Loan.lend Loan.nil)) hc36 (ent_f hc36.fn rfl) (show Hp S0 σ0 _ ([Ch.own n0 0 (Sl a17 xs15 c18) xs15, Ch.own n0 n0 (Sl a28 xs26 c29) xs26] ++ ([] ++ [Ch.bx n0 b30 0 [(Sl a17 xs15 c18), (Sl a28 xs26 c29)] [] [], Ch.bx n0 b5 0 [(.slice none 0 0), (.slice none 0 0)] [] []])) from (H.sel' [2, 1, 0, 3] rfl rfl)) (by rintro _ _ _ ⟨rfl, rfl⟩; exact trivial)) wn ?_
  rintro _ σ37 ⟨_, ⟨rfl, rfl⟩, H, -, -⟩
  replace H : Hp _ _ _ [_, _, _, _] := H
  clear hle
  replace H : Hp _ _ _ [_, _, _, _] := H
  refine st (v := (B (!r34))) (rv_not rfl) (w_end (q_then ?_))
  refine cd_cond (!r34) rfl (fun hb38 => ?_) (fun hb38 => ?_)
  ·replace h := bif_t hb38 h
   refine c_seq (rg ?_)
   refine st (v := (.agg #[(.slice none 0 0), (.slice none 0 0)])) (rv_build (ps := []) Try.underlying26 ti26 (bp26 Try.underlying26) rfl (by kernel_rfl)) ?_
   refine st_exS (ex_store_box (k := 0) (cs := [(.slice none 0 0), (.slice none 0 0)]) (vs := [(.slice none 0 0), (.slice none 0 0)]) (cs' := [(.slice none 0 0), (.slice none 0 0)]) H (i := 3) rfl ti26 rfl rfl rfl rfl rfl (Nat.le_of_ble_eq_true rfl) (by simp [plain]) rfl) wn ?_
   rintro σ39 ⟨H, -⟩
   refine sa (B false) rfl (w_end (q_then (c_ret (q_then_r ?_))))
   replace H := H.nilOwn (Int × (Int × (List Int) × Int)) n0 n0
   replace H := H.nilOwn Int n0 n0
   obtain rfl := sj h
   exact fin_ret (v := (.tuple #[(.agg #[(.slice none 0 0), (.slice none 0 0)]), (B false)])) (results_ok Try.results27 (res_cell rfl (run_cellRes (cs := [(.slice none 0 0), (.slice none 0 0)]) Try.underlying26 rfl ti26 rfl (H.cells 2 rfl)) (res_tmp (v := (B false)) rfl res_nil)) rfl) ⟨none, 0, none, 0, rfl, rfl, rfl⟩ (H.sel' [1, 0] rfl rfl)
  ·replace h := bif_f hb38 h
   refine c_skip (q_then (c_seq (rg ?_)))
   have hc40 := H.cells 2 rfl
   refine st (v := (.agg #[(Sl a17 xs15 c18), (Sl a28 xs26 c29)])) (rv_load (cs := [(Sl a17 xs15 c18), (Sl a28 xs26 c29)]) Try.underlying26 rfl ti26 rfl rfl hc40) (st (v := (pt b30 0)) (rv_fieldAddr (off := 0) (ft := 23) Try.underlying26 rfl ti23 rfl rfl) ?_)
   have hc41 := H.cell (u := (Sl a17 xs15 c18)) (o' := 0) 2 0 rfl rfl rfl
   refine st (v := (Sl a17 xs15 c18)) (rv_load1 Try.underlying23 rfl rfl hc41) (st (v := (I (xs15.length : Int))) (rv_len Try.underlying23 rfl) ?_)
   obtain ⟨σ42, hw43, H, -⟩ := H.pub 0 rfl (Nat.zero_le _)
   rw [← hw43]; clear hw43
   obtain ⟨σ44, hw45, H, -⟩ := H.pub 1 rfl (Nat.le_refl _)
   rw [← hw45]; clear hw45
   replace H := H.roLow 0 0 rfl (Nat.zero_le _)
   revert h; refine br fun r46 hx47 h => ?_
   have hc48 := c_impl_History_firstEntries (Cd := a17) (Ce := c18) (Cf := a28) (Cg := c29) hx47
   refine st_call (cx_call hc48 (ent_f hc48.fn rfl) hn0 (H.sel' [2, 0, 0, 1, 2, 3, 4] rfl rfl : Hp S0 σ0 _ ([_, _] ++ _))) wn ?_
   rintro _ σ54 ⟨_, ⟨a49, c50, a52, c53, rfl, rfl, ht51⟩, H, -⟩
   replace H : Hp _ _ _ [_, _, _, _, _, _, _] := H
   refine st_exS (ex_store_box (k := 0) (cs := [(.slice none 0 0), (.slice none 0 0)]) (vs := [(Sl a49 r46.1 c50), (Sl a52 r46.2 c53)]) (cs' := [(Sl a49 r46.1 c50), (Sl a52 r46.2 c53)]) H (i := 6) rfl ti26 rfl rfl rfl rfl rfl (Nat.le_of_ble_eq_true rfl) (by simp [plain]) rfl) wn ?_
   rintro σ55 ⟨H, -⟩
   refine sa (B true) rfl (w_end (q_then (c_ret ?_)))
   obtain rfl := sj h
   exact fin_ret (v := (.tuple #[(.agg #[(Sl a49 r46.1 c50), (Sl a52 r46.2 c53)]), (B true)])) (results_ok Try.results27 (res_cell rfl (run_cellRes (cs := [(Sl a49 r46.1 c50), (Sl a52 r46.2 c53)]) Try.underlying26 rfl ti26 rfl (H.cells 0 rfl)) (res_tmp (v := (B true)) rfl res_nil)) rfl) ⟨a49, c50, a52, c53, rfl, rfl, ht51⟩ (H.sel' [1, 2] rfl rfl)

theorem c_laws_equalItem {Cr : Int × (List Int) × Int} {Cs : Int × (List Int) × Int} {Dt : Option Addr} {Du : Nat} {Dv : Option Addr} {Dw : Nat} {r : Bool} (h : M.laws_equalItem Cr Cs = some r) :
    Cal2 Try.prog 31 [(.agg #[(I Cr.1), (Sl Dt Cr.2.1 Du), (I Cr.2.2)]), (.agg #[(I Cs.1), (Sl Dv Cs.2.1 Dw), (I Cs.2.2)])] [Ch.ro 0 (Sl Dt Cr.2.1 Du) Cr.2.1, Ch.ro 0 (Sl Dv Cs.2.1 Dw) Cs.2.1] (fun n0 v L => v = (B r) ∧ L = []) := by
 refine cal2 (n := 24) Try.func31 rfl rfl rfl rfl ?_
 intro S0 σ0 n0 hn0 H
 unfold M.laws_equalItem at h
 refine c_seq (rg (st_ex (ex_box (cs := [(I Cr.1), (Sl Dt Cr.2.1 Du), (I Cr.2.2)]) H hn0 rfl rfl) wn ?_))
 rintro _ σ2 ⟨b1, rfl, H, -⟩
 refine st_ex (ex_box (cs := [(I Cs.1), (Sl Dv Cs.2.1 Dw), (I Cs.2.2)]) H hn0 rfl rfl) wn ?_
 rintro _ σ4 ⟨b3, rfl, H, -⟩
 refine sa (B false) rfl (w_end (q_then (c_seq (rg (st (v := (pt b1 0)) (rv_fieldAddr (off := 0) (ft := 3) Try.underlying41 rfl ti3 rfl rfl) ?_)))))
 have hc5 := H.cell (u := (I Cr.1)) (o' := 0) 1 0 rfl rfl rfl
 refine st (v := (I Cr.1)) (rv_load1 Try.underlying3 rfl rfl hc5) (st (v := (pt b3 0)) (rv_fieldAddr (off := 0) (ft := 3) Try.underlying41 rfl ti3 rfl rfl) ?_)
 have hc6 := H.cell (u := (I Cs.1)) (o' := 0) 0 0 rfl rfl rfl
 refine st (v := (I Cs.1)) (rv_load1 Try.underlying3 rfl rfl hc6) (st (v := (B (Cr.1 == Cs.1))) (rv_eql (a := Cr.1) (b := Cs.1) rfl rfl) (sm (B (Cr.1 == Cs.1)) rfl ?_))
 rcases Bool.eq_false_or_eq_true (Cr.1 == Cs.1) with hb7 | hb7
 ·replace h := bif_t hb7 h
  refine st_g (v := (pt b1 2)) (congrArg some hb7) (rv_fieldAddr (off := 2) (ft := 3) Try.underlying41 rfl ti3 rfl rfl) ?_
  have hc8 := H.cell (u := (I Cr.2.2)) (o' := 2) 1 2 rfl rfl rfl
  refine st_g (v := (I Cr.2.2)) (congrArg some hb7) (rv_load1 Try.underlying3 rfl rfl hc8) (st_g (v := (pt b3 2)) (congrArg some hb7) (rv_fieldAddr (off := 2) (ft := 3) Try.underlying41 rfl ti3 rfl rfl) ?_)
  have hc9 := H.cell (u := (I Cs.2.2)) (o' := 2) 0 2 rfl rfl rfl
  refine st_g (v := (I Cs.2.2)) (congrArg some hb7) (rv_load1 Try.underlying3 rfl rfl hc9) (st_g (v := (B (Cr.2.2 == Cs.2.2))) (congrArg some hb7) (rv_eql (a := Cr.2.2) (b := Cs.2.2) rfl rfl) (st (v := (B (Cr.2.2 == Cs.2.2))) (rv_pick_t (congrArg B hb7) rfl) (sm (B (Cr.2.2 == Cs.2.2)) rfl ?_)))
  rcases Bool.eq_false_or_eq_true (Cr.2.2 == Cs.2.2) with hb10 | hb10
  ·replace h := bif_t hb10 h
   refine st_g (v := (pt b1 1)) (congrArg some hb10) (rv_fieldAddr (off := 1) (ft := 24) Try.underlying41 rfl ti24 rfl rfl) ?_
   have hc11 := H.cell (u := (Sl Dt Cr.2.1 Du)) (o' := 1) 1 1 rfl rfl rfl
   refine st_g (v := (Sl Dt Cr.2.1 Du)) (congrArg some hb10) (rv_load1 Try.underlying24 rfl rfl hc11) (st_g (v := (pt b3 1)) (congrArg some hb10) (rv_fieldAddr (off := 1) (ft := 24) Try.underlying41 rfl ti24 rfl rfl) ?_)
   have hc12 := H.cell (u := (Sl Dv Cs.2.1 Dw)) (o' := 1) 0 1 rfl rfl rfl
   refine st_g (v := (Sl Dv Cs.2.1 Dw)) (congrArg some hb10) (rv_load1 Try.underlying24 rfl rfl hc12) ?_
   revert h; refine br fun r13 hx14 h => ?_
   have hc15 := c_laws_equalInts (Ct := Dt) (Cu := Du) (Cv := Dv) (Cw := Dw) hx14
   refine st_call (cx_call hc15 (ent_f hc15.fn rfl) hn0 (H.sel' [2, 3, 0, 1, 2, 3] rfl rfl : Hp S0 σ0 _ ([_, _] ++ _))) (wanted_yes rfl (by exact (congrArg some hb10))) ?_
   rintro _ σ16 ⟨_, ⟨rfl, rfl⟩, H, -⟩
   replace H : Hp _ _ _ [_, _, _, _] := H
   refine st (v := (B r13)) (rv_pick_t (congrArg B hb10) rfl) (sa (B r13) rfl (w_end (q_then (c_ret ?_))))
   obtain rfl := sj h
   exact fin_ret (v := (B r13)) (results_ok Try.results31 (res_tmp (v := (B r13)) rfl res_nil) rfl) ⟨rfl, rfl⟩ (H.sel' [] rfl rfl)
  ·replace h := bif_f hb10 h
   refine st_skip (congrArg some hb10) (st_skip (congrArg some hb10) (st_skip (congrArg some hb10) (st_skip (congrArg some hb10) (st_skip (congrArg some hb10) (st (v := (B false)) (rv_pick_f (congrArg B hb10) rfl) (sa (B false) rfl (w_end (q_then (c_ret ?_)))))))))
   obtain rfl := sj h
   exact fin_ret (v := (B false)) (results_ok Try.results31 (res_tmp (v := (B false)) rfl res_nil) rfl) ⟨rfl, rfl⟩ (H.sel' [] rfl rfl)
 ·replace h := bif_f hb7 h
  refine st_skip (congrArg some hb7) (st_skip (congrArg some hb7) (st_skip (congrArg some hb7) (st_skip (congrArg some hb7) (st_skip (congrArg some hb7) (st (v := (B false)) (rv_pick_f (congrArg B hb7) rfl) (sm (B false) rfl (st_skip rfl (st_skip rfl (st_skip rfl (st_skip rfl (st_skip rfl ?_)))))))))))
  refine st (v := (B false)) (rv_pick_f rfl rfl) (sa (B false) rfl (w_end (q_then (c_ret ?_))))
  obtain rfl := sj h
  exact fin_ret (v := (B false)) (results_ok Try.results31 (res_tmp (v := (B false)) rfl res_nil) rfl) ⟨rfl, rfl⟩ (H.sel' [] rfl rfl)

end Go.Vs
