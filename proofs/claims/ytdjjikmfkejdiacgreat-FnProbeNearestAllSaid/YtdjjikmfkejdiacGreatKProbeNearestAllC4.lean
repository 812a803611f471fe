/- The functions compute what their models say. -/
import Derived.Test.YtdjjikmfkejdiacGreatKProbeNearestAllC3
set_option linter.unusedVariables false
set_option linter.unusedSimpArgs false
set_option maxRecDepth 20000
namespace Go.Vs
open Go Go.Proofs
attribute [local irreducible] Code.wp Code.wpIn wpList wpListIn wpQuiet Calls CallsIn

theorem c_impl_AssignItems {Bn : List (List Int)} {Ap : List (Int × (List Int) × Int)} {Bq : Option Addr} {Br : Nat} {Aq : Option Addr} {Ar : Nat} {r : (List Int)} (h : M.impl_AssignItems Bn Ap = some r) :
    Cal2 Tryz.prog 76 [(Sl Bq Bn Br), (Sl Aq Ap Ar)] [Ch.ro 0 (Sl Bq Bn Br) Bn, Ch.ro 0 (Sl Aq Ap Ar) Ap] (fun n0 v L => ∃ (az1 : Option Addr), ∃ (cz2 : Nat), v = (Sl az1 r cz2) ∧ L = [Ch.own n0 n0 (Sl az1 r cz2) r] ∧ cz2 = r.length) := by
 refine cal2 (n := 31) Tryz.func76 rfl rfl rfl rfl ?_
 intro S0 σ0 n0 hn0 H
 unfold M.impl_AssignItems at h
 refine c_seq (rg (sa (.slice none 0 0) rfl (w_end (q_then (c_seq (c_seq (rg (sm (Sl Bq Bn Br) rfl (sm (Sl Aq Ap Ar) rfl ?_)))))))))
 revert h; refine br fun r1 hx2 h => ?_
 have hc3 := c_impl_validClusters (Bq := Bq) (Br := Br) (Aq := Aq) (Ar := Ar) hx2
 refine st_call (cx_call hc3 (ent_f hc3.fn rfl) hn0 (H.sel' [0, 1, 0, 1] rfl rfl : Hp S0 σ0 _ ([_, _] ++ _))) wn ?_
 rintro _ σ4 ⟨_, ⟨rfl, rfl⟩, H, -⟩
 replace H : Hp _ _ _ [_, _] := H
 refine st (v := (B (!r1))) (rv_not rfl) (w_end (q_then ?_))
 refine cd_cond (!r1) rfl (fun hb5 => ?_) (fun hb5 => ?_)
 ·replace h := bif_t hb5 h
  refine c_seq (rg (sa (.slice none 0 0) rfl (w_end (q_then (c_ret (q_then_r ?_))))))
  replace H := H.nilOwn Int n0 n0
  obtain rfl := sj h
  exact fin_ret (v := (.slice none 0 0)) (results_ok Tryz.results76 (res_tmp (v := (.slice none 0 0)) rfl res_nil) rfl) ⟨none, 0, rfl, rfl, rfl⟩ (H.sel' [0] rfl rfl)
 ·replace h := bif_f hb5 h
  refine c_skip (q_then (c_seq (rg (sm (Sl Aq Ap Ar) rfl (st (v := (I (Ap.length : Int))) (rv_len Tryz.underlying24 rfl) ?_)))))
  revert h; refine br fun xs6 hx7 h => ?_
  refine st_ex (ex_make (el := n0) (z0 := (0 : Int)) (zs := [(I 0)]) H hn0 Tryz.underlying25 ti3 rfl rfl rfl (by decide) hx7 rfl rfl) wn ?_
  rintro _ σ11 ⟨b8, c9, rfl, ht10, H, -⟩
  replace ht10 := ht10.trans (gmake_len hx7).symm
  refine sa (Sl (some ⟨b8, 0, none⟩) xs6 c9) rfl (w_end (q_then (c_seq (c_seq (rg (sm (Sl Aq Ap Ar) rfl (st (v := (I (Ap.length : Int))) (rv_len Tryz.underlying24 rfl) (sm (I 0) rfl (w_end (q_then ?_))))))))))
  obtain ⟨o12, hj, h'⟩ := bind_some h
  clear h
  refine c_cut (fun e a w => e = .normal ∧ ∃ (ρ : Nat → Value) (σ : St), a = fr 31 (updL ρ [(5, (Sl (some ⟨b8, 0, none⟩) o12 c9))]) ∧ w = σ.w ∧ Hp S0 σ0 σ [Ch.own n0 n0 (Sl (some ⟨b8, 0, none⟩) o12 c9) o12] ∧ c9 = o12.length ∧ o12.length = xs6.length) ?_ ?_
  ·clear h'
   rename _ = some o12 => h
   refine c_blk (wp_loopM _ h (fun s13 a w => ∃ (ρ : Nat → Value) (σ : St), a = fr 31 (updL ρ [(0, (Sl Bq Bn Br)), (5, (Sl (some ⟨b8, 0, none⟩) s13.1 c9)), (15, (Sl Aq Ap Ar)), (16, (I (Ap.length : Int))), (17, (I s13.2))]) ∧ w = σ.w ∧ Hp S0 σ0 σ [Ch.ro 0 (Sl Bq Bn Br) Bn, Ch.own n0 n0 (Sl (some ⟨b8, 0, none⟩) s13.1 c9) s13.1, Ch.ro 0 (Sl Aq Ap Ar) Ap] ∧ c9 = s13.1.length ∧ s13.1.length = xs6.length) ⟨_, σ11, fr_join ⟨rfl, rfl, rfl, rfl, rfl, trivial⟩, rfl, H.sel' [1, 0, 2] rfl rfl, ht10, rfl⟩ ?_)
   clear h H
   rintro s13 a w o ⟨ρ, σ14, rfl, rfl, H, ht15, hn16⟩ h hres
   refine c_seq (rg (st (v := (B (decide (s13.2 < (Ap.length : Int))))) (rv_lss (a := s13.2) (b := (Ap.length : Int)) rfl rfl) (w_end (q_then (c_seq ?_)))))
   refine cd_cond (decide (s13.2 < (Ap.length : Int))) rfl (fun hb17 => ?_) (fun hb17 => ?_)
   ·replace h := bif_t hb17 h
    refine c_skip (q_then (c_seq (c_blk (c_seq (rg (sm (I s13.2) rfl ?_))))))
    revert h; refine br fun x18 hx19 h => ?_
    obtain ⟨b21, o22, hi20, -⟩ := (H.ro 2 rfl).ix hx19
    refine st (v := (pt b21 o22)) (rv_ix Tryz.underlying24 ti41 rfl rfl hi20) ?_
    obtain ⟨_, ⟨_, _, rfl, rfl, ⟨_, _, rfl, ⟨_, rfl, hR27⟩, rfl⟩⟩, hl23, hc24⟩ := ((H.ro 2 rfl).at hx19 hi20).cells
    obtain ⟨a25, c26, rfl⟩ := hR27.isSl
    replace H := H.add (d := Ch.ro 0 (Sl a25 x18.2.1 c26) x18.2.1) hR27 (fun _ h => h)
    clear hR27
    refine st (v := (.agg #[(I x18.1), (Sl a25 x18.2.1 c26), (I x18.2.2)])) (rv_load Tryz.underlying41 rfl ti41 rfl hl23 hc24) (st_ex (ex_alloc (cs := [(I 0), (.slice none 0 0), (I 0)]) H hn0 ti41 rfl) wn ?_)
    rintro _ σ29 ⟨b28, rfl, H, -⟩
    refine sa (I s13.2) rfl ?_
    refine st_exS (ex_store_box (k := 0) (cs := [(I 0), (.slice none 0 0), (I 0)]) (vs := [(I x18.1), (Sl a25 x18.2.1 c26), (I x18.2.2)]) (cs' := [(I x18.1), (Sl a25 x18.2.1 c26), (I x18.2.2)]) H (i := 0) rfl ti41 rfl rfl rfl rfl rfl (Nat.le_of_ble_eq_true rfl) (by simp [plain]) rfl) wn ?_
    rintro σ30 ⟨H, -⟩
    refine w_end (q_then (rg (sm (Sl (some ⟨b8, 0, none⟩) s13.1 c9) rfl (sm (I s13.2) rfl (sm (Sl Bq Bn Br) rfl (st (v := (pt b28 1)) (rv_fieldAddr (off := 1) (ft := 25) Tryz.underlying41 rfl ti25 rfl rfl) ?_))))))
    have hc31 := H.cell (u := (Sl a25 x18.2.1 c26)) (o' := 1) 0 1 rfl rfl rfl
    refine st (v := (Sl a25 x18.2.1 c26)) (rv_load1 Tryz.underlying25 rfl rfl hc31) ?_
    revert h; refine br fun r32 hx33 h => ?_
    have hc34 := c_impl_CentreOf (Bq := Bq) (Br := Br) (Bs := a25) (Bt := c26) hx33
    refine st_call (cx_call hc34 (ent_f hc34.fn rfl) hn0 (H.sel' [2, 1, 0, 1, 2, 3, 4] rfl rfl : Hp S0 σ0 _ ([_, _] ++ _))) wn ?_
    rintro _ σ35 ⟨_, ⟨rfl, rfl⟩, H, -⟩
    replace H : Hp _ _ _ [_, _, _, _, _] := H
    revert h; refine br fun x36 hx37 h => ?_
    obtain ⟨b39, o40, hi38, -⟩ := (H.own 3 rfl).ix hx37
    refine st (v := (pt b39 o40)) (rv_ix Tryz.underlying25 ti3 rfl rfl hi38) ?_
    refine st_exS (ex_store_own (e' := r32) (vs := [(I r32)]) (k := 0) H (i := 3) rfl ti3 hx37 hi38 rfl rfl rfl rfl rfl (Nat.le_of_ble_eq_true rfl) (by simp [plain]) (by rintro _ rfl; exact rfl)) wn ?_
    rintro σ41 ⟨H, -⟩
    have hsl : (Sl (some ⟨b8, 0, none⟩) s13.1 c9) = (Sl (some ⟨b8, 0, none⟩) (s13.1.set s13.2.toNat r32) c9) := sl_len List.length_set.symm
    rw [hsl]; rw [hsl] at H; clear hsl
    refine w_end (q_blk (q_then (rg (st (v := (I (w64 (s13.2 + 1)))) (rv_add (a := s13.2) (b := 1) rfl rfl) (sm (I (w64 (s13.2 + 1))) rfl (w_end (q_then ?_)))))))
    obtain rfl := sj h
    exact ⟨_, rfl, _, σ41, fr_join ⟨rfl, rfl, rfl, rfl, rfl, trivial⟩, rfl, H.sel' [3, 0, 4] rfl rfl, (ht15.trans List.length_set.symm), (List.length_set.trans hn16)⟩
   ·replace h := bif_f hb17 h
    refine c_exit (q_then_x (q_then_x (q_blk_hit ?_)))
    obtain rfl := sj h
    obtain rfl := hres _ rfl
    exact ⟨rfl, _, σ14, fr_join ⟨rfl, trivial⟩, rfl, H.sel' [1] rfl rfl, ht15, hn16⟩
  ·clear hj
   have h := h'
   clear h' H
   rintro e a w ⟨rfl, ρ, σ42, rfl, rfl, H, ht43, hn44⟩
   refine q_then (c_seq (rg (sm (Sl (some ⟨b8, 0, none⟩) o12 c9) rfl (sa (Sl (some ⟨b8, 0, none⟩) o12 c9) rfl (w_end (q_then (c_ret ?_)))))))
   obtain rfl := sj h
   exact fin_ret (v := (Sl (some ⟨b8, 0, none⟩) o12 c9)) (results_ok Tryz.results76 (res_tmp (v := (Sl (some ⟨b8, 0, none⟩) o12 c9)) rfl res_nil) rfl) ⟨(some ⟨b8, 0, none⟩), c9, rfl, rfl, ht43⟩ (H.sel' [0] rfl rfl)

theorem c_impl_itemsByCentre {Bn : List (List Int)} {Ap : List (Int × (List Int) × Int)} {Bq : Option Addr} {Br : Nat} {Aq : Option Addr} {Ar : Nat} {r : (List (Int × (List (Int × (List Int) × Int))))} (h : M.impl_itemsByCentre Bn Ap = some r) :
    Cal2 Tryz.prog 53 [(Sl Bq Bn Br), (Sl Aq Ap Ar)] [Ch.ro 0 (Sl Bq Bn Br) Bn, Ch.ro 0 (Sl Aq Ap Ar) Ap] (fun n0 v L => ∃ (bz1 : Nat), ∃ (Kz2 : List Ch), v = (.map (some bz1)) ∧ L = [Ch.big Kz2] ∧ Mp 0 0 bz1 r Kz2) := by
 refine cal2 (n := 31) Tryz.func53 rfl rfl rfl rfl ?_
 intro S0 σ0 n0 hn0 H
 unfold M.impl_itemsByCentre at h
 refine c_seq (rg (sa (.map none) rfl (w_end (q_then (c_seq (rg (st_ex (ex_makeMap (lo := 0) (Int × (List Int) × Int) 0 H (Nat.zero_le _)) wn ?_)))))))
 rintro _ σ4 ⟨b1, K2, rfl, hK3, H, -⟩
 refine sa (.map (some b1)) rfl (w_end (q_then (c_seq (c_seq (rg (sm (Sl Bq Bn Br) rfl (sm (Sl Aq Ap Ar) rfl ?_)))))))
 revert h; refine br fun r5 hx6 h => ?_
 have hc7 := c_impl_AssignItems (Bq := Bq) (Br := Br) (Aq := Aq) (Ar := Ar) hx6
 refine st_call (cx_call hc7 (ent_f hc7.fn rfl) hn0 (H.sel' [1, 2, 0, 1, 2] rfl rfl : Hp S0 σ0 _ ([_, _] ++ _))) wn ?_
 rintro _ σ11 ⟨_, ⟨a8, c9, rfl, rfl, ht10⟩, H, -⟩
 replace H : Hp _ _ _ [_, _, _, _] := H
 refine st (v := (I (r5.length : Int))) (rv_len Tryz.underlying25 rfl) (sm (I 0) rfl (w_end (q_then ?_)))
 obtain ⟨o12, hj, h'⟩ := bind_some h
 clear h
 refine c_cut (fun e a w => e = .normal ∧ ∃ (ρ : Nat → Value) (σ : St) (bj1 : Nat) (Kj2 : List Ch), a = fr 31 (updL ρ [(5, (.map (some bj1)))]) ∧ w = σ.w ∧ Hp S0 σ0 σ [Ch.big Kj2] ∧ Mp 0 0 bj1 o12 Kj2) ?_ ?_
 ·clear h'
  rename _ = some o12 => h
  refine c_blk (wp_loopM _ h (fun s13 a w => ∃ (ρ : Nat → Value) (σ : St) (bj1 : Nat) (Kj2 : List Ch), a = fr 31 (updL ρ [(1, (Sl Aq Ap Ar)), (5, (.map (some bj1))), (11, (Sl a8 r5 c9)), (12, (I (r5.length : Int))), (13, (I s13.2))]) ∧ w = σ.w ∧ Hp S0 σ0 σ [Ch.ro 0 (Sl Aq Ap Ar) Ap, Ch.big Kj2, Ch.own n0 n0 (Sl a8 r5 c9) r5] ∧ Mp 0 0 bj1 s13.1 Kj2) ⟨_, σ11, b1, K2, fr_join ⟨rfl, rfl, rfl, rfl, rfl, trivial⟩, rfl, H.sel' [3, 1, 0] rfl rfl, hK3⟩ ?_)
  clear h H
  rintro s13 a w o ⟨ρ, σ14, b15, K16, rfl, rfl, H, hK17⟩ h hres
  refine c_seq (rg (st (v := (B (decide (s13.2 < (r5.length : Int))))) (rv_lss (a := s13.2) (b := (r5.length : Int)) rfl rfl) (w_end (q_then (c_seq ?_)))))
  refine cd_cond (decide (s13.2 < (r5.length : Int))) rfl (fun hb18 => ?_) (fun hb18 => ?_)
  ·replace h := bif_t hb18 h
   refine c_skip (q_then (c_seq (c_blk (c_seq (rg (sm (I s13.2) rfl ?_))))))
   revert h; refine br fun x19 hx20 h => ?_
   obtain ⟨b22, o23, hi21, -⟩ := (H.own 2 rfl).ix hx20
   refine st (v := (pt b22 o23)) (rv_ix Tryz.underlying25 ti3 rfl rfl hi21) ?_
   have hc24 := ((H.own 2 rfl).at hx20 hi21).int
   refine st (v := (I x19)) (rv_load1 Tryz.underlying3 rfl rfl hc24) (sa (I s13.2) rfl (sa (I x19) rfl (w_end (q_then ?_))))
   obtain ⟨v28, K29, H, hK30⟩ := H.mpOut x19 1 rfl hK17
   obtain ⟨a25, c26, rfl⟩ := (H.own 0 rfl).isSl
   have hL27 := hK30.look H 1 rfl
   revert h; refine br fun x31 hx32 h => ?_
   obtain ⟨b34, o35, hi33, -⟩ := (H.ro 2 rfl).ix hx32
   obtain ⟨_, ⟨_, _, rfl, rfl, ⟨_, _, rfl, ⟨_, rfl, hR40⟩, rfl⟩⟩, hl36, hc37⟩ := ((H.ro 2 rfl).at hx32 hi33).cells
   obtain ⟨a38, c39, rfl⟩ := hR40.isSl
   replace H := H.add (d := Ch.ro 0 (Sl a38 x31.2.1 c39) x31.2.1) hR40 (fun _ h => h)
   clear hR40
   revert h; refine br fun xs42 hx43 h => ?_
   have Hs := H
   refine rg2 (σ := σ14) (Nm := (Nat) × (Option Addr) × (Nat)) 11 [9, 10] [[false, false], [true, false], [true, true]] [[(0, 0), (1, 1), (2, 2)], [(0, 0), (1, 1), (2, 2)], [(0, 0), (1, 1)], [(0, 0), (1, 1)], [(0, 0), (1, 1)], [(0, 0)], [(0, 0)], [(0, 0)], [(0, 0)], [(0, 1)], [(1, 2)]] 2 [fun ((b41, a44, c45) : (Nat) × (Option Addr) × (Nat)) => fun σm => Hp S0 σ0 σm [Ch.ro 0 (Sl a38 x31.2.1 c39) x31.2.1, Ch.own 0 0 (Sl a25 (mget s13.1 x19) c26) (mget s13.1 x19), Ch.big K29, Ch.ro 0 (Sl Aq Ap Ar) Ap, Ch.own n0 n0 (Sl a8 r5 c9) r5] ∧ Md (cov []) σ14 σm, fun ((b41, a44, c45) : (Nat) × (Option Addr) × (Nat)) => fun σm => Hp S0 σ0 σm [Ch.own n0 0 (Sl (some ⟨b41, 0, none⟩) ([(x31.1, x31.2.1, x31.2.2)] : List (Int × (List Int) × Int)) 1) ([(x31.1, x31.2.1, x31.2.2)] : List (Int × (List Int) × Int)), Ch.ro 0 (Sl a38 x31.2.1 c39) x31.2.1, Ch.own 0 0 (Sl a25 (mget s13.1 x19) c26) (mget s13.1 x19), Ch.big K29, Ch.ro 0 (Sl Aq Ap Ar) Ap, Ch.own n0 n0 (Sl a8 r5 c9) r5] ∧ Md (cov []) σ14 σm, fun ((b41, a44, c45) : (Nat) × (Option Addr) × (Nat)) => fun σm => Hp S0 σ0 σm [Ch.own 0 0 (Sl a44 xs42 c45) xs42, Ch.own n0 0 (Sl (some ⟨b41, 0, none⟩) ([(x31.1, x31.2.1, x31.2.2)] : List (Int × (List Int) × Int)) 1) ([(x31.1, x31.2.1, x31.2.2)] : List (Int × (List Int) × Int)), Ch.ro 0 (Sl a38 x31.2.1 c39) x31.2.1, Ch.big K29, Ch.ro 0 (Sl Aq Ap Ar) Ap, Ch.own n0 n0 (Sl a8 r5 c9) r5] ∧ Md (fun i => (cov []) i ∨ (fun b => blk (Sl a25 (mget s13.1 x19) c26) = some b) i) σ14 σm] [fun ((b41, a44, c45) : (Nat) × (Option Addr) × (Nat)) => (.map (some b15)), fun ((b41, a44, c45) : (Nat) × (Option Addr) × (Nat)) => (I x19), fun ((b41, a44, c45) : (Nat) × (Option Addr) × (Nat)) => (.map (some b15)), fun ((b41, a44, c45) : (Nat) × (Option Addr) × (Nat)) => (I x19), fun ((b41, a44, c45) : (Nat) × (Option Addr) × (Nat)) => (Sl a25 (mget s13.1 x19) c26), fun ((b41, a44, c45) : (Nat) × (Option Addr) × (Nat)) => (Sl Aq Ap Ar), fun ((b41, a44, c45) : (Nat) × (Option Addr) × (Nat)) => (I s13.2), fun ((b41, a44, c45) : (Nat) × (Option Addr) × (Nat)) => (pt b34 o35), fun ((b41, a44, c45) : (Nat) × (Option Addr) × (Nat)) => (.agg #[(I x31.1), (Sl a38 x31.2.1 c39), (I x31.2.2)]), fun ((b41, a44, c45) : (Nat) × (Option Addr) × (Nat)) => (Sl (some ⟨b41, 0, none⟩) ([(x31.1, x31.2.1, x31.2.2)] : List (Int × (List Int) × Int)) 1), fun ((b41, a44, c45) : (Nat) × (Option Addr) × (Nat)) => (Sl a44 xs42 c45)] (0, none, 0) (by kernel_rfl) (by kernel_rfl) ?_ ?_ ?_
   ·intro σm m0
    exact ⟨H.grow (m0.mono fun _ h => h.elim), m0⟩
   ·refine ac rfl (by
      intro k; rintro ⟨b41, a44, c45⟩ ρ σm hJ hoff hdep
      have e5 := look_off (N := 31) (hoff 5 rfl) rfl
      exact dp_v (v := (.map (some b15))) wn (rv_move e5) rfl hJ) ?_
    refine ac rfl (by
      intro k; rintro ⟨b41, a44, c45⟩ ρ σm hJ hoff hdep
      have e7 := look_off (N := 31) (hoff 7 rfl) rfl
      exact dp_v (v := (I x19)) wn (rv_move e7) rfl hJ) ?_
    refine ac rfl (by
      intro k; rintro ⟨b41, a44, c45⟩ ρ σm hJ hoff hdep
      have e5 := look_off (N := 31) (hoff 5 rfl) rfl
      exact dp_v (v := (.map (some b15))) wn (rv_move e5) rfl hJ) ?_
    refine ac rfl (by
      intro k; rintro ⟨b41, a44, c45⟩ ρ σm hJ hoff hdep
      have e7 := look_off (N := 31) (hoff 7 rfl) rfl
      exact dp_v (v := (I x19)) wn (rv_move e7) rfl hJ) ?_
    refine all_cons (by
      refine ⟨?_, ?_⟩
      ·rintro ⟨b41, a44, c45⟩ ρ σm hJ hoff hdep
       have e20 := hdep 2 rfl rfl 20 rfl
       have e21 := hdep 3 rfl rfl 21 rfl
       obtain ⟨H, m⟩ := id hJ
       have hL27 := hK30.look H 2 rfl
       exact dp_v (v := (Sl a25 (mget s13.1 x19) c26)) wn (rv_lookup Tryz.underlying77 Tryz.underlying3 ti24 e20 e21 hL27) rfl hJ
      refine ⟨?_, ?_⟩
      ·rintro ⟨b41, a44, c45⟩ ρ σm hJ hoff hdep
       have e20 := hdep 2 rfl rfl 20 rfl
       have e21 := hdep 3 rfl rfl 21 rfl
       obtain ⟨H, m⟩ := id hJ
       have hL27 := hK30.look H 3 rfl
       exact dp_v (v := (Sl a25 (mget s13.1 x19) c26)) wn (rv_lookup Tryz.underlying77 Tryz.underlying3 ti24 e20 e21 hL27) rfl hJ
      trivial) ?_
    refine ac rfl (by
      intro k; rintro ⟨b41, a44, c45⟩ ρ σm hJ hoff hdep
      have e1 := look_off (N := 31) (hoff 1 rfl) rfl
      exact dp_v (v := (Sl Aq Ap Ar)) wn (rv_move e1) rfl hJ) ?_
    refine ac rfl (by
      intro k; rintro ⟨b41, a44, c45⟩ ρ σm hJ hoff hdep
      have e6 := look_off (N := 31) (hoff 6 rfl) rfl
      exact dp_v (v := (I s13.2)) wn (rv_move e6) rfl hJ) ?_
    refine ac rfl (by
      intro k; rintro ⟨b41, a44, c45⟩ ρ σm hJ hoff hdep
      have e23 := hdep 5 rfl rfl 23 rfl
      have e24 := hdep 6 rfl rfl 24 rfl
      exact dp_v (v := (pt b34 o35)) wn (rv_ix Tryz.underlying24 ti41 e23 e24 hi33) rfl hJ) ?_
    refine all_cons (by
      refine ⟨?_, ?_⟩
      ·rintro ⟨b41, a44, c45⟩ ρ σm hJ hoff hdep
       have e25 := hdep 7 rfl rfl 25 rfl
       obtain ⟨H, m⟩ := id hJ
       replace hc37 := fun j hj => (Hs.ro 3 rfl).hmd hx32 hi33 (k := j) (Nat.lt_of_lt_of_eq hj hl36) (hc37 j hj) m
       exact dp_v (v := (.agg #[(I x31.1), (Sl a38 x31.2.1 c39), (I x31.2.2)])) wn (rv_load Tryz.underlying41 rfl ti41 e25 hl36 hc37) rfl hJ
      trivial) ?_
    refine all_cons (by
      refine ⟨?_, ?_⟩
      ·rintro ⟨b41, a44, c45⟩ ρ σm hJ hoff hdep
       have e26 : look 31 ρ 26 = (.agg #[(I x31.1), (Sl a38 x31.2.1 c39), (I x31.2.2)]) := hdep 8 rfl rfl 26 rfl
       obtain ⟨H, m⟩ := id hJ
       refine dp_ex wn (ex_buildSlice (el := 0) (xs := ([(x31.1, x31.2.1, x31.2.2)] : List (Int × (List Int) × Int))) (ps := [(0, (.agg #[(I x31.1), (Sl a38 x31.2.1 c39), (I x31.2.2)]))]) (cs := [(I x31.1), (Sl a38 x31.2.1 c39), (I x31.2.2)]) H hn0 Tryz.underlying24 ti41 rfl (by show [(0, look 31 ρ 26)] = _; rw [e26]) (by kernel_rfl) (.cons (c := [(I x31.1), (Sl a38 x31.2.1 c39), (I x31.2.2)]) ⟨[(I x31.1)], [(Sl a38 x31.2.1 c39), (I x31.2.2)], rfl, rfl, ⟨[(Sl a38 x31.2.1 c39)], [(I x31.2.2)], rfl, ⟨_, rfl, (H.ro 0 rfl)⟩, rfl⟩⟩ (.nil)) rfl) ?_
       rintro _ σq ⟨b41x, rfl, H2, m2⟩
       exact ⟨_, (b41x, a44, c45), rfl, rfl, ⟨H2.sel' [0, 1, 2, 3, 4, 5] rfl rfl, m.comp0 m2⟩, stab [0, 1, 2, 3, 4, 5, 6, 7, 8] (by kernel_rfl) ⟨rfl, rfl, rfl, rfl, rfl, rfl, rfl, rfl, rfl, trivial⟩⟩
      trivial) ?_
    refine all_cons (by
      refine ⟨?_, ?_⟩
      ·rintro ⟨b41, a44, c45⟩ ρ σm hJ hoff hdep
       have e22 := hdep 4 rfl rfl 22 rfl
       have e27 := hdep 9 rfl rfl 27 rfl
       obtain ⟨H, m⟩ := id hJ
       refine dp_ex wn (ex_append H (i := 2) rfl Tryz.underlying24 Tryz.underlying24 ti41 rfl rfl (by decide) (H.own 0 rfl).rd hx43 (Nat.zero_le _) e22 e27) ?_
       rintro _ σq ⟨a44x, c45x, rfl, H2, m2⟩
       exact ⟨_, (b41, a44x, c45x), rfl, rfl, ⟨H2.sel' [0, 1, 2, 3, 4, 5] rfl rfl, m.comp m2⟩, stab [0, 1, 2, 3, 4, 5, 6, 7, 8, 9] (by kernel_rfl) ⟨rfl, rfl, rfl, rfl, rfl, rfl, rfl, rfl, rfl, rfl, trivial⟩⟩
      trivial) ?_
    exact all_nil
   ·rintro ⟨b41, a44, c45⟩ ρ σ46 hJ hoff hrel
    have e1 := look_off (N := 31) (hoff 1 rfl) rfl
    have e5 := look_off (N := 31) (hoff 5 rfl) rfl
    have e11 := look_off (N := 31) (hoff 11 rfl) rfl
    have e12 := look_off (N := 31) (hoff 12 rfl) rfl
    have e13 := look_off (N := 31) (hoff 13 rfl) rfl
    have e18 := hrel 0 rfl 18 rfl
    have e19 := hrel 1 rfl 19 rfl
    have e28 := hrel 10 rfl 28 rfl
    obtain ⟨H, -⟩ := (show Hp S0 σ0 σ46 [Ch.own 0 0 (Sl a44 xs42 c45) xs42, Ch.own n0 0 (Sl (some ⟨b41, 0, none⟩) ([(x31.1, x31.2.1, x31.2.2)] : List (Int × (List Int) × Int)) 1) ([(x31.1, x31.2.1, x31.2.2)] : List (Int × (List Int) × Int)), Ch.ro 0 (Sl a38 x31.2.1 c39) x31.2.1, Ch.big K29, Ch.ro 0 (Sl Aq Ap Ar) Ap, Ch.own n0 n0 (Sl a8 r5 c9) r5] ∧ Md (fun i => (cov []) i ∨ (fun b => blk (Sl a25 (mget s13.1 x19) c26) = some b) i) σ14 σ46 from hJ)
    clear hJ Hs
    rw [fr_lookL (L := [(1, (Sl Aq Ap Ar)), (5, (.map (some b15))), (11, (Sl a8 r5 c9)), (12, (I (r5.length : Int))), (13, (I s13.2)), (18, (.map (some b15))), (19, (I x19)), (28, (Sl a44 xs42 c45))]) ⟨e1, e5, e11, e12, e13, e18, e19, e28, trivial⟩]
    clear hoff hrel e1 e5 e11 e12 e13 e18 e19 e28
    replace H := H.sel' [3, 0, 1, 2, 4, 5] rfl rfl
    obtain ⟨K47, hK48, he49⟩ := hK30.put (Sl a44 xs42 c45) xs42
    refine st_exS (he49 (ty := _) H Tryz.underlying77 Tryz.underlying3 rfl rfl rfl) wn ?_
    rintro σ50 ⟨H, -⟩
    refine w_end (q_blk (q_then (rg (st (v := (I (w64 (s13.2 + 1)))) (rv_add (a := s13.2) (b := 1) rfl rfl) (sm (I (w64 (s13.2 + 1))) rfl (w_end (q_then ?_)))))))
    obtain rfl := sj h
    exact ⟨_, rfl, _, σ50, b15, K47, fr_join ⟨rfl, rfl, rfl, rfl, rfl, trivial⟩, rfl, H.sel' [3, 0, 4] rfl rfl, hK48⟩
  ·replace h := bif_f hb18 h
   refine c_exit (q_then_x (q_then_x (q_blk_hit ?_)))
   obtain rfl := sj h
   obtain rfl := hres _ rfl
   exact ⟨rfl, _, σ14, b15, K16, fr_join ⟨rfl, trivial⟩, rfl, H.sel' [1] rfl rfl, hK17⟩
 ·clear hj
  have h := h'
  clear h' H
  rintro e a w ⟨rfl, ρ, σ51, b52, K53, rfl, rfl, H, hK54⟩
  refine q_then (c_seq (rg (sm (.map (some b52)) rfl (sa (.map (some b52)) rfl (w_end (q_then (c_ret ?_)))))))
  obtain rfl := sj h
  exact fin_ret (v := (.map (some b52))) (results_ok Tryz.results53 (res_tmp (v := (.map (some b52))) rfl res_nil) rfl) ⟨b52, K53, rfl, rfl, hK54⟩ (H.sel' [0] rfl rfl)

theorem c_impl_ProbeOrder_1__p_SSint__p24 {Fu : Int} {Cw : Int} {Er : List (List Int)} {Fv : List Int} {Ey : Option Addr} {Ez : Nat} {Fa Fb Fc : Nat} {Fd Fe : List Value} {Fw : Option Addr} {Fx : Nat} {Fy Ga Gb : Nat} {Gc Gd : List Value} {r : Int} (h : M.impl_ProbeOrder_1__p_SSint__p24 Fu Cw Er Fv = some r) :
    Cal2 Tryz.prog 78 [(I Fu), (I Cw), (pt Fb Fc), (pt Ga Gb)] [Ch.bx Fa Fb Fc [(Sl Ey Er Ez)] Fd Fe, Ch.ro 0 (Sl Ey Er Ez) Er, Ch.bx Fy Ga Gb [(Sl Fw Fv Fx)] Gc Gd, Ch.ro 0 (Sl Fw Fv Fx) Fv] (fun n0 v L => v = (I r) ∧ L = [Ch.bx Fa Fb Fc [(Sl Ey Er Ez)] Fd Fe, Ch.bx Fy Ga Gb [(Sl Fw Fv Fx)] Gc Gd]) := by
 refine cal2 (n := 20) Tryz.func78 rfl rfl rfl rfl ?_
 intro S0 σ0 n0 hn0 H
 unfold M.impl_ProbeOrder_1__p_SSint__p24 at h
 refine c_seq (rg (sa (I 0) rfl (w_end (q_then (c_seq ?_)))))
 have hc1 := H.cell (u := (Sl Ey Er Ez)) (o' := Fc) 0 0 rfl rfl rfl
 revert h; refine br fun x2 hx3 h => ?_
 obtain ⟨b5, o6, hi4, -⟩ := (H.ro 1 rfl).ix hx3
 obtain ⟨v10, hc11, hR9⟩ := ((H.ro 1 rfl).at hx3 hi4).slice
 obtain ⟨a7, c8, rfl⟩ := hR9.isSl
 replace H := H.add (d := Ch.ro 0 (Sl a7 x2 c8) x2) hR9 (fun _ h => h)
 clear hR9
 have hc12 := H.cell (u := (Sl Fw Fv Fx)) (o' := Gb) 3 0 rfl rfl rfl
 revert h; refine br fun r13 hx14 h => ?_
 have hc15 := c_impl_Distance (El := a7) (Em := c8) (En := Fw) (Eo := Fx) hx14
 have hc16 := H.cell (u := (Sl Ey Er Ez)) (o' := Fc) 1 0 rfl rfl rfl
 revert h; refine br fun x17 hx18 h => ?_
 obtain ⟨b20, o21, hi19, -⟩ := (H.ro 2 rfl).ix hx18
 obtain ⟨v25, hc26, hR24⟩ := ((H.ro 2 rfl).at hx18 hi19).slice
 obtain ⟨a22, c23, rfl⟩ := hR24.isSl
 replace H := H.add (d := Ch.ro 0 (Sl a22 x17 c23) x17) hR24 (fun _ h => h)
 clear hR24
 have hc27 := H.cell (u := (Sl Fw Fv Fx)) (o' := Gb) 4 0 rfl rfl rfl
 have Hs := H
 refine rg2 (σ := σ0) (Nm := Unit) 11 [5] [[false], [true]] [[(0, 0)], [(0, 0)], [(0, 0)], [(0, 0)], [(0, 0)], [(0, 1)], [(0, 0), (1, 1)], [(0, 0), (1, 1)], [(0, 0), (1, 1)], [(0, 0), (1, 1)], [(0, 0), (1, 1)]] 1 [fun _ => fun σm => Hp S0 σ0 σm [Ch.ro 0 (Sl a22 x17 c23) x17, Ch.ro 0 (Sl a7 x2 c8) x2, Ch.bx Fa Fb Fc [(Sl Ey Er Ez)] Fd Fe, Ch.ro 0 (Sl Ey Er Ez) Er, Ch.bx Fy Ga Gb [(Sl Fw Fv Fx)] Gc Gd, Ch.ro 0 (Sl Fw Fv Fx) Fv] ∧ Md (cov []) σ0 σm, fun _ => fun σm => Hp S0 σ0 σm [Ch.ro 0 (Sl a22 x17 c23) x17, Ch.ro 0 (Sl a7 x2 c8) x2, Ch.bx Fa Fb Fc [(Sl Ey Er Ez)] Fd Fe, Ch.ro 0 (Sl Ey Er Ez) Er, Ch.bx Fy Ga Gb [(Sl Fw Fv Fx)] Gc Gd, Ch.ro 0 (Sl Fw Fv Fx) Fv] ∧ Md (cov []) σ0 σm] [fun _ => (Sl Ey Er Ez), fun _ => (I Fu), fun _ => (pt b5 o6), fun _ => (Sl a7 x2 c8), fun _ => (Sl Fw Fv Fx), fun _ => (I r13), fun _ => (Sl Ey Er Ez), fun _ => (I Cw), fun _ => (pt b20 o21), fun _ => (Sl a22 x17 c23), fun _ => (Sl Fw Fv Fx)] () (by kernel_rfl) (by kernel_rfl) ?_ ?_ ?_
 ·intro σm m0
  exact ⟨H.grow (m0.mono fun _ h => h.elim), m0⟩
 ·refine all_cons (by
    refine ⟨?_, ?_⟩
    ·intro _nm ρ σm hJ hoff hdep
     have e2 := look_off (N := 20) (hoff 2 rfl) rfl
     obtain ⟨H, m⟩ := id hJ
     have hc1 := H.cell (u := (Sl Ey Er Ez)) (o' := Fc) 2 0 rfl rfl rfl
     exact dp_v (v := (Sl Ey Er Ez)) wn (rv_load1 Tryz.underlying23 rfl e2 hc1) rfl hJ
    trivial) ?_
  refine ac rfl (by
    intro k _nm ρ σm hJ hoff hdep
    have e0 := look_off (N := 20) (hoff 0 rfl) rfl
    exact dp_v (v := (I Fu)) wn (rv_move e0) rfl hJ) ?_
  refine ac rfl (by
    intro k _nm ρ σm hJ hoff hdep
    have e7 := hdep 0 rfl rfl 7 rfl
    have e8 := hdep 1 rfl rfl 8 rfl
    exact dp_v (v := (pt b5 o6)) wn (rv_ix Tryz.underlying23 ti25 e7 e8 hi4) rfl hJ) ?_
  refine all_cons (by
    refine ⟨?_, ?_⟩
    ·intro _nm ρ σm hJ hoff hdep
     have e9 := hdep 2 rfl rfl 9 rfl
     obtain ⟨H, m⟩ := id hJ
     replace hc11 := (Hs.ro 3 rfl).hmd hx3 hi4 (k := 0) (by decide) hc11 m
     exact dp_v (v := (Sl a7 x2 c8)) wn (rv_load1 Tryz.underlying25 rfl e9 hc11) rfl hJ
    trivial) ?_
  refine all_cons (by
    refine ⟨?_, ?_⟩
    ·intro _nm ρ σm hJ hoff hdep
     have e3 := look_off (N := 20) (hoff 3 rfl) rfl
     obtain ⟨H, m⟩ := id hJ
     have hc12 := H.cell (u := (Sl Fw Fv Fx)) (o' := Gb) 4 0 rfl rfl rfl
     exact dp_v (v := (Sl Fw Fv Fx)) wn (rv_load1 Tryz.underlying25 rfl e3 hc12) rfl hJ
    trivial) ?_
  refine all_cons (by
    refine ⟨?_, ?_⟩
    ·intro _nm ρ σm hJ hoff hdep
     have e10 : look 20 ρ 10 = (Sl a7 x2 c8) := hdep 3 rfl rfl 10 rfl
     have e11 : look 20 ρ 11 = (Sl Fw Fv Fx) := hdep 4 rfl rfl 11 rfl
     obtain ⟨H, m⟩ := id hJ
     refine dp_cx wn (cx_call hc15 (ent_f hc15.fn (by show [(I 3), look 20 ρ 10, look 20 ρ 11] = _; rw [e10, e11])) hn0 (H.sel' [1, 5, 0, 1, 2, 3, 4, 5] rfl rfl : Hp S0 σ0 _ ([_, _] ++ _))) ?_
     rintro _ σq ⟨_, ⟨rfl, rfl⟩, H2, m2⟩
     exact ⟨_, (), rfl, rfl, ⟨H2.sel' [0, 1, 2, 3, 4, 5] rfl rfl, m.comp0 (m2.mono (fun i h => by simp [cov, Ch.ro] at h))⟩, stab [0, 1, 2, 3, 4, 6, 7, 8, 9, 10] (by kernel_rfl) ⟨rfl, rfl, rfl, rfl, rfl, rfl, rfl, rfl, rfl, rfl, trivial⟩⟩
    trivial) ?_
  refine all_cons (by
    refine ⟨?_, ?_⟩
    ·intro _nm ρ σm hJ hoff hdep
     have e2 := look_off (N := 20) (hoff 2 rfl) rfl
     obtain ⟨H, m⟩ := id hJ
     have hc16 := H.cell (u := (Sl Ey Er Ez)) (o' := Fc) 2 0 rfl rfl rfl
     exact dp_v (v := (Sl Ey Er Ez)) wn (rv_load1 Tryz.underlying23 rfl e2 hc16) rfl hJ
    refine ⟨?_, ?_⟩
    ·intro _nm ρ σm hJ hoff hdep
     have e2 := look_off (N := 20) (hoff 2 rfl) rfl
     obtain ⟨H, m⟩ := id hJ
     have hc16 := H.cell (u := (Sl Ey Er Ez)) (o' := Fc) 2 0 rfl rfl rfl
     exact dp_v (v := (Sl Ey Er Ez)) wn (rv_load1 Tryz.underlying23 rfl e2 hc16) rfl hJ
    trivial) ?_
  refine ac rfl (by
    intro k _nm ρ σm hJ hoff hdep
    have e1 := look_off (N := 20) (hoff 1 rfl) rfl
    exact dp_v (v := (I Cw)) wn (rv_move e1) rfl hJ) ?_
  refine ac rfl (by
    intro k _nm ρ σm hJ hoff hdep
    have e13 := hdep 6 rfl rfl 13 rfl
    have e14 := hdep 7 rfl rfl 14 rfl
    exact dp_v (v := (pt b20 o21)) wn (rv_ix Tryz.underlying23 ti25 e13 e14 hi19) rfl hJ) ?_
  refine all_cons (by
    refine ⟨?_, ?_⟩
    ·intro _nm ρ σm hJ hoff hdep
     have e15 := hdep 8 rfl rfl 15 rfl
     obtain ⟨H, m⟩ := id hJ
     replace hc26 := (Hs.ro 3 rfl).hmd hx18 hi19 (k := 0) (by decide) hc26 m
     exact dp_v (v := (Sl a22 x17 c23)) wn (rv_load1 Tryz.underlying25 rfl e15 hc26) rfl hJ
    refine ⟨?_, ?_⟩
    ·intro _nm ρ σm hJ hoff hdep
     have e15 := hdep 8 rfl rfl 15 rfl
     obtain ⟨H, m⟩ := id hJ
     replace hc26 := (Hs.ro 3 rfl).hmd hx18 hi19 (k := 0) (by decide) hc26 m
     exact dp_v (v := (Sl a22 x17 c23)) wn (rv_load1 Tryz.underlying25 rfl e15 hc26) rfl hJ
    trivial) ?_
  refine all_cons (by
    refine ⟨?_, ?_⟩
    ·intro _nm ρ σm hJ hoff hdep
     have e3 := look_off (N := 20) (hoff 3 rfl) rfl
     obtain ⟨H, m⟩ := id hJ
     have hc27 := H.cell (u := (Sl Fw Fv Fx)) (o' := Gb) 4 0 rfl rfl rfl
     exact dp_v (v := (Sl Fw Fv Fx)) wn (rv_load1 Tryz.underlying25 rfl e3 hc27) rfl hJ
    refine ⟨?_, ?_⟩
    ·intro _nm ρ σm hJ hoff hdep
     have e3 := look_off (N := 20) (hoff 3 rfl) rfl
     obtain ⟨H, m⟩ := id hJ
     have hc27 := H.cell (u := (Sl Fw Fv Fx)) (o' := Gb) 4 0 rfl rfl rfl
     exact dp_v (v := (Sl Fw Fv Fx)) wn (rv_load1 Tryz.underlying25 rfl e3 hc27) rfl hJ
    trivial) ?_
  exact all_nil
 ·intro _nm ρ σ28 hJ hoff hrel
  have e2 := look_off (N := 20) (hoff 2 rfl) rfl
  have e3 := look_off (N := 20) (hoff 3 rfl) rfl
  have e12 := hrel 5 rfl 12 rfl
  have e16 := hrel 9 rfl 16 rfl
  have e17 := hrel 10 rfl 17 rfl
  obtain ⟨H, -⟩ := (show Hp S0 σ0 σ28 [Ch.ro 0 (Sl a22 x17 c23) x17, Ch.ro 0 (Sl a7 x2 c8) x2, Ch.bx Fa Fb Fc [(Sl Ey Er Ez)] Fd Fe, Ch.ro 0 (Sl Ey Er Ez) Er, Ch.bx Fy Ga Gb [(Sl Fw Fv Fx)] Gc Gd, Ch.ro 0 (Sl Fw Fv Fx) Fv] ∧ Md (cov []) σ0 σ28 from hJ)
  clear hJ Hs
  rw [fr_lookL (L := [(2, (pt Fb Fc)), (3, (pt Ga Gb)), (12, (I r13)), (16, (Sl a22 x17 c23)), (17, (Sl Fw Fv Fx))]) ⟨e2, e3, e12, e16, e17, trivial⟩]
  clear hoff hrel e2 e3 e12 e16 e17
  revert h; refine br fun r29 hx30 h => ?_
  have hc31 := c_impl_Distance (El := a22) (Em := c23) (En := Fw) (Eo := Fx) hx30
  refine st_call (cx_call hc31 (ent_f hc31.fn rfl) hn0 (H.sel' [0, 5, 0, 1, 2, 3, 4, 5] rfl rfl : Hp S0 σ0 _ ([_, _] ++ _))) wn ?_
  rintro _ σ32 ⟨_, ⟨rfl, rfl⟩, H, -⟩
  replace H : Hp _ _ _ [_, _, _, _, _, _] := H
  revert h; refine br fun r33 hx34 h => ?_
  have hc35 := c_cmp_Compare_int hx34
  refine st_call (cx_call hc35 (ent_f hc35.fn rfl) hn0 (H.sel' [0, 1, 2, 3, 4, 5] rfl rfl : Hp S0 σ0 _ ([] ++ _))) wn ?_
  rintro _ σ36 ⟨_, ⟨rfl, rfl⟩, H, -⟩
  replace H : Hp _ _ _ [_, _, _, _, _, _] := H
  refine sa (I r33) rfl (w_end (q_then (c_ret ?_)))
  obtain rfl := sj h
  exact fin_ret (v := (I r33)) (results_ok Tryz.results78 (res_tmp (v := (I r33)) rfl res_nil) rfl) ⟨rfl, rfl⟩ (H.sel' [2, 4] rfl rfl)

theorem c_slices_insertionSortCmpFunc_int__impl_ProbeOrder_1 {Ge : List Int} {Ej : Int} {Ek : Int} {Gf : List (List Int)} {Gg : List Int} {Gh : Option Addr} {Gi : Nat} {Gj : Option Addr} {Gk : Nat} {Gl Gm Gn : Nat} {Gp Gq : List Value} {Gr : Option Addr} {Gs : Nat} {Gt Gu Gv : Nat} {Gw Gx : List Value} {r : (List Int)} (h : M.slices_insertionSortCmpFunc_int__impl_ProbeOrder_1 Ge Ej Ek Gf Gg = some r) :
    Cal2 Tryz.prog 103 [(Sl Gh Ge Gi), (I Ej), (I Ek), (.func (.func 78) #[] #[(pt Gm Gn), (pt Gu Gv)])] [Ch.own 0 0 (Sl Gh Ge Gi) Ge, Ch.bx Gl Gm Gn [(Sl Gj Gf Gk)] Gp Gq, Ch.ro 0 (Sl Gj Gf Gk) Gf, Ch.bx Gt Gu Gv [(Sl Gr Gg Gs)] Gw Gx, Ch.ro 0 (Sl Gr Gg Gs) Gg] (fun n0 v L => v = (.tuple #[]) ∧ L = [Ch.own 0 0 (Sl Gh r Gi) r, Ch.bx Gl Gm Gn [(Sl Gj Gf Gk)] Gp Gq, Ch.bx Gt Gu Gv [(Sl Gr Gg Gs)] Gw Gx] ∧ r.length = Ge.length) := by
 refine cal2 (n := 53) Tryz.func103 rfl rfl rfl rfl ?_
 intro S0 σ0 n0 hn0 H
 unfold M.slices_insertionSortCmpFunc_int__impl_ProbeOrder_1 at h
 refine c_seq (rg (sm (I Ej) rfl (st (v := (I (w64 (Ej + 1)))) (rv_add (a := Ej) (b := 1) rfl rfl) (sa (I (w64 (Ej + 1))) rfl (w_end (q_then ?_))))))
 obtain ⟨o1, hj, h'⟩ := bind_some h
 clear h
 refine c_cut (fun e a w => e = .normal ∧ ∃ (ρ : Nat → Value) (σ : St), a = fr 53 (updL ρ [(0, (Sl Gh o1 Gi)), (3, (.func (.func 78) #[] #[(pt Gm Gn), (pt Gu Gv)]))]) ∧ w = σ.w ∧ Hp S0 σ0 σ [Ch.own 0 0 (Sl Gh o1 Gi) o1, Ch.ro 0 (Sl Gj Gf Gk) Gf, Ch.bx Gl Gm Gn [(Sl Gj Gf Gk)] Gp Gq, Ch.ro 0 (Sl Gr Gg Gs) Gg, Ch.bx Gt Gu Gv [(Sl Gr Gg Gs)] Gw Gx] ∧ o1.length = Ge.length) ?_ ?_
 ·clear h'
  rename _ = some o1 => h
  refine c_blk (wp_loopM _ h (fun s2 a w => ∃ (ρ : Nat → Value) (σ : St), a = fr 53 (updL ρ [(0, (Sl Gh s2.1 Gi)), (1, (I Ej)), (2, (I Ek)), (3, (.func (.func 78) #[] #[(pt Gm Gn), (pt Gu Gv)])), (8, (I s2.2))]) ∧ w = σ.w ∧ Hp S0 σ0 σ [Ch.own 0 0 (Sl Gh s2.1 Gi) s2.1, Ch.ro 0 (Sl Gj Gf Gk) Gf, Ch.bx Gl Gm Gn [(Sl Gj Gf Gk)] Gp Gq, Ch.ro 0 (Sl Gr Gg Gs) Gg, Ch.bx Gt Gu Gv [(Sl Gr Gg Gs)] Gw Gx] ∧ s2.1.length = Ge.length) ⟨_, σ0, fr_join ⟨rfl, rfl, rfl, rfl, rfl, trivial⟩, rfl, H.sel' [0, 2, 1, 4, 3] rfl rfl, rfl⟩ ?_)
  clear h H
  rintro s2 a w o ⟨ρ, σ3, rfl, rfl, H, hn4⟩ h hres
  refine c_seq (c_seq (rg (sm (I s2.2) rfl (sm (I Ek) rfl (st (v := (B (decide (s2.2 < Ek)))) (rv_lss (a := s2.2) (b := Ek) rfl rfl) (w_end (q_then ?_)))))))
  refine cd_cond (decide (s2.2 < Ek)) rfl (fun hb5 => ?_) (fun hb5 => ?_)
  ·replace h := bif_t hb5 h
   refine c_skip (q_then (c_seq (c_blk (c_seq (rg (sm (I s2.2) rfl (sa (I s2.2) rfl (w_end (q_then ?_)))))))))
   obtain ⟨o6, hj, h'⟩ := bind_some h
   clear h
   refine c_cut (fun e a w => e = .normal ∧ ∃ (ρ : Nat → Value) (σ : St), a = fr 53 (updL ρ [(0, (Sl Gh o6 Gi)), (1, (I Ej)), (2, (I Ek)), (3, (.func (.func 78) #[] #[(pt Gm Gn), (pt Gu Gv)])), (8, (I s2.2))]) ∧ w = σ.w ∧ Hp S0 σ0 σ [Ch.own 0 0 (Sl Gh o6 Gi) o6, Ch.ro 0 (Sl Gj Gf Gk) Gf, Ch.bx Gl Gm Gn [(Sl Gj Gf Gk)] Gp Gq, Ch.ro 0 (Sl Gr Gg Gs) Gg, Ch.bx Gt Gu Gv [(Sl Gr Gg Gs)] Gw Gx] ∧ o6.length = s2.1.length) ?_ ?_
   ·clear h'
    rename _ = some o6 => h
    refine c_blk (wp_loopM _ h (fun s7 a w => ∃ (ρ : Nat → Value) (σ : St), a = fr 53 (updL ρ [(0, (Sl Gh s7.1 Gi)), (1, (I Ej)), (2, (I Ek)), (3, (.func (.func 78) #[] #[(pt Gm Gn), (pt Gu Gv)])), (8, (I s2.2)), (9, (I s7.2))]) ∧ w = σ.w ∧ Hp S0 σ0 σ [Ch.own 0 0 (Sl Gh s7.1 Gi) s7.1, Ch.ro 0 (Sl Gj Gf Gk) Gf, Ch.bx Gl Gm Gn [(Sl Gj Gf Gk)] Gp Gq, Ch.ro 0 (Sl Gr Gg Gs) Gg, Ch.bx Gt Gu Gv [(Sl Gr Gg Gs)] Gw Gx] ∧ s7.1.length = s2.1.length) ⟨_, σ3, fr_join ⟨rfl, rfl, rfl, rfl, rfl, rfl, trivial⟩, rfl, H.sel' [0, 1, 2, 3, 4] rfl rfl, rfl⟩ ?_)
    clear h H
    rintro s7 a w o ⟨ρ, σ8, rfl, rfl, H, hn9⟩ h hres
    refine c_seq (c_seq ?_)
    obtain ⟨o10, hj, h'⟩ := bind_some h
    clear h
    refine c_cut (fun e a w => e = .normal ∧ ∃ (ρ : Nat → Value) (σ : St), a = fr 53 (updL ρ [(0, (Sl Gh s7.1 Gi)), (1, (I Ej)), (2, (I Ek)), (3, (.func (.func 78) #[] #[(pt Gm Gn), (pt Gu Gv)])), (8, (I s2.2)), (9, (I s7.2)), (34, (B o10))]) ∧ w = σ.w ∧ Hp S0 σ0 σ [Ch.own 0 0 (Sl Gh s7.1 Gi) s7.1, Ch.ro 0 (Sl Gj Gf Gk) Gf, Ch.bx Gl Gm Gn [(Sl Gj Gf Gk)] Gp Gq, Ch.ro 0 (Sl Gr Gg Gs) Gg, Ch.bx Gt Gu Gv [(Sl Gr Gg Gs)] Gw Gx]) ?_ ?_
    ·clear h'
     rename _ = some o10 => h
     refine rgP (σ := σ8) 14 (by kernel_rfl) (by kernel_rfl) (by kernel_rfl) ?_
     refine sq (v := (I s7.2)) (rv_move rfl) (sq (v := (I Ej)) (rv_move rfl) (sq (v := (B (decide (Ej < s7.2)))) (rv_gtr (a := s7.2) (b := Ej) rfl rfl) (sq (v := (B (decide (Ej < s7.2)))) (rv_move rfl) ?_)))
     rcases Bool.eq_false_or_eq_true (decide (Ej < s7.2)) with hb11 | hb11
     ·replace h := bif_t hb11 h
      refine sq_g (v := (.func (.func 78) #[] #[(pt Gm Gn), (pt Gu Gv)])) (congrArg some hb11) (rv_move rfl) (sq_g (v := (Sl Gh s7.1 Gi)) (congrArg some hb11) (rv_move rfl) (sq_g (v := (I s7.2)) (congrArg some hb11) (rv_move rfl) ?_))
      revert h; refine br fun x12 hx13 h => ?_
      obtain ⟨b15, o16, hi14, -⟩ := (H.own 0 rfl).ix hx13
      refine sq_g (v := (pt b15 o16)) (congrArg some hb11) (rv_ix Tryz.underlying25 ti3 rfl rfl hi14) ?_
      have hc17 := ((H.own 0 rfl).at hx13 hi14).int
      refine sq_g (v := (I x12)) (congrArg some hb11) (rv_load1 Tryz.underlying3 rfl rfl hc17) (sq_g (v := (Sl Gh s7.1 Gi)) (congrArg some hb11) (rv_move rfl) (sq_g (v := (I s7.2)) (congrArg some hb11) (rv_move rfl) (sq_g (v := (I (w64 (s7.2 - 1)))) (congrArg some hb11) (rv_sub (a := s7.2) (b := 1) rfl rfl) ?_)))
      revert h; refine br fun x18 hx19 h => ?_
      obtain ⟨b21, o22, hi20, -⟩ := (H.own 0 rfl).ix hx19
      refine sq_g (v := (pt b21 o22)) (congrArg some hb11) (rv_ix Tryz.underlying25 ti3 rfl rfl hi20) ?_
      have hc23 := ((H.own 0 rfl).at hx19 hi20).int
      refine sq_g (v := (I x18)) (congrArg some hb11) (rv_load1 Tryz.underlying3 rfl rfl hc23) (sq_end ?_)
      intro σ24 hm25
      replace H := H.grow (hm25.mono fun _ h => h); clear hm25
      revert h; refine br fun r26 hx27 h => ?_
      have hc28 := c_impl_ProbeOrder_1__p_SSint__p24 (Fa := Gl) (Fb := Gm) (Fc := Gn) (Fd := Gp) (Fe := Gq) (Ey := Gj) (Ez := Gk) (Fy := Gt) (Ga := Gu) (Gb := Gv) (Gc := Gw) (Gd := Gx) (Fw := Gr) (Fx := Gs) hx27
      refine st_call (cx_call hc28 (ent_v (cap := [(pt Gm Gn), (pt Gu Gv)]) hc28.fn rfl rfl) hn0 (H.sel' [2, 1, 4, 3, 0, 1, 3] rfl rfl : Hp S0 σ0 _ ([_, _, _, _] ++ _))) (wanted_yes rfl (by exact (congrArg some hb11))) ?_
      rintro _ σ29 ⟨_, ⟨rfl, rfl⟩, H, -⟩
      replace H : Hp _ _ _ [_, _, _, _, _] := H
      refine st_g (v := (B (decide (r26 < 0)))) (congrArg some hb11) (rv_lss (a := r26) (b := 0) rfl rfl) (st (v := (B (decide (r26 < 0)))) (rv_pick_t (congrArg B hb11) rfl) (w_end ?_))
      obtain rfl := sj h
      exact ⟨rfl, _, σ29, fr_join ⟨rfl, rfl, rfl, rfl, rfl, rfl, rfl, trivial⟩, rfl, H.sel' [2, 3, 0, 4, 1] rfl rfl⟩
     ·replace h := bif_f hb11 h
      refine sq_skip (congrArg some hb11) (sq_skip (congrArg some hb11) (sq_skip (congrArg some hb11) (sq_skip (congrArg some hb11) (sq_skip (congrArg some hb11) (sq_skip (congrArg some hb11) (sq_skip (congrArg some hb11) (sq_skip (congrArg some hb11) (sq_skip (congrArg some hb11) (sq_skip (congrArg some hb11) (sq_end ?_))))))))))
      intro σ30 hm31
      replace H := H.grow (hm31.mono fun _ h => h); clear hm31
      refine st_skip (congrArg some hb11) (st_skip (congrArg some hb11) (st (v := (B false)) (rv_pick_f (congrArg B hb11) rfl) (w_end ?_)))
      obtain rfl := sj h
      exact ⟨rfl, _, σ30, fr_join ⟨rfl, rfl, rfl, rfl, rfl, rfl, rfl, trivial⟩, rfl, H.sel' [0, 1, 2, 3, 4] rfl rfl⟩
    ·clear hj
     have h := h'
     clear h' H
     rintro e a w ⟨rfl, ρ, σ32, rfl, rfl, H⟩
     refine q_then ?_
     refine cd_cond o10 rfl (fun hb33 => ?_) (fun hb33 => ?_)
     ·replace h := bif_t hb33 h
      refine c_skip (q_then (c_seq (c_blk ?_)))
      revert h; refine br fun x34 hx35 h => ?_
      obtain ⟨b37, o38, hi36, -⟩ := (H.own 0 rfl).ix hx35
      have hc39 := ((H.own 0 rfl).at hx35 hi36).int
      revert h; refine br fun x40 hx41 h => ?_
      obtain ⟨b43, o44, hi42, -⟩ := (H.own 0 rfl).ix hx41
      have hc45 := ((H.own 0 rfl).at hx41 hi42).int
      revert h; refine br fun x46 hx47 h => ?_
      obtain ⟨b49, o50, hi48, -⟩ := (H.own 0 rfl).ix hx47
      have Hs := H
      refine rg2 (σ := σ32) (Nm := Unit) 16 [15] [[false], [true]] [[(0, 0)], [(0, 0)], [(0, 0), (1, 1)], [(0, 0), (1, 1)], [(0, 0), (1, 1)], [(0, 0)], [(0, 0)], [(0, 0)], [(0, 0)], [(0, 0)], [(0, 0)], [(0, 0)], [(0, 0)], [(0, 0)], [(0, 0)], [(0, 1)]] 1 [fun _ => fun σm => Hp S0 σ0 σm [Ch.own 0 0 (Sl Gh s7.1 Gi) s7.1, Ch.ro 0 (Sl Gj Gf Gk) Gf, Ch.bx Gl Gm Gn [(Sl Gj Gf Gk)] Gp Gq, Ch.ro 0 (Sl Gr Gg Gs) Gg, Ch.bx Gt Gu Gv [(Sl Gr Gg Gs)] Gw Gx] ∧ Md (cov []) σ32 σm, fun _ => fun σm => Hp S0 σ0 σm [Ch.own 0 0 (Sl Gh s7.1 Gi) (s7.1.set s7.2.toNat x34), Ch.ro 0 (Sl Gj Gf Gk) Gf, Ch.bx Gl Gm Gn [(Sl Gj Gf Gk)] Gp Gq, Ch.ro 0 (Sl Gr Gg Gs) Gg, Ch.bx Gt Gu Gv [(Sl Gr Gg Gs)] Gw Gx] ∧ Md (fun i => (cov []) i ∨ (fun b => blk (Sl Gh s7.1 Gi) = some b) i) σ32 σm] [fun _ => (Sl Gh s7.1 Gi), fun _ => (I s7.2), fun _ => (Sl Gh s7.1 Gi), fun _ => (I s7.2), fun _ => (I (w64 (s7.2 - 1))), fun _ => (Sl Gh s7.1 Gi), fun _ => (I s7.2), fun _ => (I (w64 (s7.2 - 1))), fun _ => (pt b37 o38), fun _ => (I x34), fun _ => (Sl Gh s7.1 Gi), fun _ => (I s7.2), fun _ => (pt b43 o44), fun _ => (I x40), fun _ => (pt b49 o50), fun _ => undef] () (by kernel_rfl) (by kernel_rfl) ?_ ?_ ?_
      ·intro σm m0
       exact ⟨H.grow (m0.mono fun _ h => h.elim), m0⟩
      ·refine ac rfl (by
         intro k _nm ρ σm hJ hoff hdep
         have e0 := look_off (N := 53) (hoff 0 rfl) rfl
         exact dp_v (v := (Sl Gh s7.1 Gi)) wn (rv_move e0) rfl hJ) ?_
       refine ac rfl (by
         intro k _nm ρ σm hJ hoff hdep
         have e9 := look_off (N := 53) (hoff 9 rfl) rfl
         exact dp_v (v := (I s7.2)) wn (rv_move e9) rfl hJ) ?_
       refine ac rfl (by
         intro k _nm ρ σm hJ hoff hdep
         have e0 := look_off (N := 53) (hoff 0 rfl) rfl
         exact dp_v (v := (Sl Gh s7.1 Gi)) wn (rv_move e0) rfl hJ) ?_
       refine ac rfl (by
         intro k _nm ρ σm hJ hoff hdep
         have e9 := look_off (N := 53) (hoff 9 rfl) rfl
         exact dp_v (v := (I s7.2)) wn (rv_move e9) rfl hJ) ?_
       refine ac rfl (by
         intro k _nm ρ σm hJ hoff hdep
         have e40 := hdep 3 rfl rfl 40 rfl
         exact dp_v (v := (I (w64 (s7.2 - 1)))) wn (rv_sub (a := s7.2) (b := 1) e40 rfl) rfl hJ) ?_
       refine ac rfl (by
         intro k _nm ρ σm hJ hoff hdep
         have e0 := look_off (N := 53) (hoff 0 rfl) rfl
         exact dp_v (v := (Sl Gh s7.1 Gi)) wn (rv_move e0) rfl hJ) ?_
       refine ac rfl (by
         intro k _nm ρ σm hJ hoff hdep
         have e9 := look_off (N := 53) (hoff 9 rfl) rfl
         exact dp_v (v := (I s7.2)) wn (rv_move e9) rfl hJ) ?_
       refine ac rfl (by
         intro k _nm ρ σm hJ hoff hdep
         have e43 := hdep 6 rfl rfl 43 rfl
         exact dp_v (v := (I (w64 (s7.2 - 1)))) wn (rv_sub (a := s7.2) (b := 1) e43 rfl) rfl hJ) ?_
       refine ac rfl (by
         intro k _nm ρ σm hJ hoff hdep
         have e42 := hdep 5 rfl rfl 42 rfl
         have e44 := hdep 7 rfl rfl 44 rfl
         exact dp_v (v := (pt b37 o38)) wn (rv_ix Tryz.underlying25 ti3 e42 e44 hi36) rfl hJ) ?_
       refine all_cons (by
         refine ⟨?_, ?_⟩
         ·intro _nm ρ σm hJ hoff hdep
          have e45 := hdep 8 rfl rfl 45 rfl
          obtain ⟨H, m⟩ := id hJ
          have hc39 := ((H.own 0 rfl).at hx35 hi36).int
          exact dp_v (v := (I x34)) wn (rv_load1 Tryz.underlying3 rfl e45 hc39) rfl hJ
         trivial) ?_
       refine ac rfl (by
         intro k _nm ρ σm hJ hoff hdep
         have e0 := look_off (N := 53) (hoff 0 rfl) rfl
         exact dp_v (v := (Sl Gh s7.1 Gi)) wn (rv_move e0) rfl hJ) ?_
       refine ac rfl (by
         intro k _nm ρ σm hJ hoff hdep
         have e9 := look_off (N := 53) (hoff 9 rfl) rfl
         exact dp_v (v := (I s7.2)) wn (rv_move e9) rfl hJ) ?_
       refine ac rfl (by
         intro k _nm ρ σm hJ hoff hdep
         have e47 := hdep 10 rfl rfl 47 rfl
         have e48 := hdep 11 rfl rfl 48 rfl
         exact dp_v (v := (pt b43 o44)) wn (rv_ix Tryz.underlying25 ti3 e47 e48 hi42) rfl hJ) ?_
       refine all_cons (by
         refine ⟨?_, ?_⟩
         ·intro _nm ρ σm hJ hoff hdep
          have e49 := hdep 12 rfl rfl 49 rfl
          obtain ⟨H, m⟩ := id hJ
          have hc45 := ((H.own 0 rfl).at hx41 hi42).int
          exact dp_v (v := (I x40)) wn (rv_load1 Tryz.underlying3 rfl e49 hc45) rfl hJ
         trivial) ?_
       refine ac rfl (by
         intro k _nm ρ σm hJ hoff hdep
         have e37 := hdep 0 rfl rfl 37 rfl
         have e38 := hdep 1 rfl rfl 38 rfl
         exact dp_v (v := (pt b49 o50)) wn (rv_ix Tryz.underlying25 ti3 e37 e38 hi48) rfl hJ) ?_
       refine all_cons (by
         refine ⟨?_, ?_⟩
         ·intro _nm ρ σm hJ hoff hdep
          have e51 := hdep 14 rfl rfl 51 rfl
          have e46 := hdep 9 rfl rfl 46 rfl
          obtain ⟨H, m⟩ := id hJ
          refine dp_exS wn rfl (ex_store_own (e' := x34) (vs := [(I x34)]) (k := 0) H (i := 0) rfl ti3 hx47 hi48 e51 rfl e46 rfl rfl (Nat.le_of_ble_eq_true rfl) (by simp [plain]) (by rintro _ rfl; exact rfl)) ?_
          rintro σq ⟨H2, m2⟩
          exact ⟨_, (), rfl, ⟨H2.sel' [0, 1, 2, 3, 4] rfl rfl, m.comp m2⟩, stab [0, 1, 2, 3, 4, 5, 6, 7, 8, 9, 10, 11, 12, 13, 14] (by kernel_rfl) ⟨rfl, rfl, rfl, rfl, rfl, rfl, rfl, rfl, rfl, rfl, rfl, rfl, rfl, rfl, rfl, trivial⟩⟩
         trivial) ?_
       exact all_nil
      ·intro _nm ρ σ51 hJ hoff hrel
       have e0 := look_off (N := 53) (hoff 0 rfl) rfl
       have e1 := look_off (N := 53) (hoff 1 rfl) rfl
       have e2 := look_off (N := 53) (hoff 2 rfl) rfl
       have e3 := look_off (N := 53) (hoff 3 rfl) rfl
       have e8 := look_off (N := 53) (hoff 8 rfl) rfl
       have e9 := look_off (N := 53) (hoff 9 rfl) rfl
       have e39 := hrel 2 rfl 39 rfl
       have e41 := hrel 4 rfl 41 rfl
       have e50 := hrel 13 rfl 50 rfl
       obtain ⟨H, -⟩ := (show Hp S0 σ0 σ51 [Ch.own 0 0 (Sl Gh s7.1 Gi) (s7.1.set s7.2.toNat x34), Ch.ro 0 (Sl Gj Gf Gk) Gf, Ch.bx Gl Gm Gn [(Sl Gj Gf Gk)] Gp Gq, Ch.ro 0 (Sl Gr Gg Gs) Gg, Ch.bx Gt Gu Gv [(Sl Gr Gg Gs)] Gw Gx] ∧ Md (fun i => (cov []) i ∨ (fun b => blk (Sl Gh s7.1 Gi) = some b) i) σ32 σ51 from hJ)
       clear hJ Hs
       rw [fr_lookL (L := [(0, (Sl Gh s7.1 Gi)), (1, (I Ej)), (2, (I Ek)), (3, (.func (.func 78) #[] #[(pt Gm Gn), (pt Gu Gv)])), (8, (I s2.2)), (9, (I s7.2)), (39, (Sl Gh s7.1 Gi)), (41, (I (w64 (s7.2 - 1)))), (50, (I x40))]) ⟨e0, e1, e2, e3, e8, e9, e39, e41, e50, trivial⟩]
       clear hoff hrel e0 e1 e2 e3 e8 e9 e39 e41 e50
       have hsl : (Sl Gh s7.1 Gi) = (Sl Gh (s7.1.set s7.2.toNat x34) Gi) := sl_len (by simp)
       rw [hsl]; rw [hsl] at H; clear hsl
       revert h; refine br fun x52 hx53 h => ?_
       obtain ⟨b55, o56, hi54, -⟩ := (H.own 0 rfl).ix hx53
       refine st (v := (pt b55 o56)) (rv_ix Tryz.underlying25 ti3 rfl rfl hi54) ?_
       refine st_exS (ex_store_own (e' := x40) (vs := [(I x40)]) (k := 0) H (i := 0) rfl ti3 hx53 hi54 rfl rfl rfl rfl rfl (Nat.le_of_ble_eq_true rfl) (by simp [plain]) (by rintro _ rfl; exact rfl)) wn ?_
       rintro σ57 ⟨H, -⟩
       have hsl : (Sl Gh (s7.1.set s7.2.toNat x34) Gi) = (Sl Gh ((s7.1.set s7.2.toNat x34).set (w64 (s7.2 - 1)).toNat x40) Gi) := sl_len List.length_set.symm
       rw [hsl]; rw [hsl] at H; clear hsl
       refine w_end (q_blk (q_then (rg (sm (I s7.2) rfl (st (v := (I (w64 (s7.2 - 1)))) (rv_sub (a := s7.2) (b := 1) rfl rfl) (sa (I (w64 (s7.2 - 1))) rfl (w_end (q_then ?_))))))))
       obtain rfl := sj h
       exact ⟨_, rfl, _, σ57, fr_join ⟨rfl, rfl, rfl, rfl, rfl, rfl, trivial⟩, rfl, H.sel' [0, 1, 2, 3, 4] rfl rfl, ((List.length_set.trans (List.length_set.trans (hn9.trans hn4))).trans hn4.symm)⟩
     ·replace h := bif_f hb33 h
      refine c_exit (q_then_x (q_then_x (q_blk_hit ?_)))
      obtain rfl := sj h
      obtain rfl := hres _ rfl
      exact ⟨rfl, _, σ32, fr_join ⟨rfl, rfl, rfl, rfl, rfl, trivial⟩, rfl, H.sel' [0, 1, 2, 3, 4] rfl rfl, ((hn9.trans hn4).trans hn4.symm)⟩
   ·clear hj
    have h := h'
    clear h' H
    rintro e a w ⟨rfl, ρ, σ58, rfl, rfl, H, hn59⟩
    refine q_blk (q_then (rg (sm (I s2.2) rfl (st (v := (I (w64 (s2.2 + 1)))) (rv_add (a := s2.2) (b := 1) rfl rfl) (sa (I (w64 (s2.2 + 1))) rfl (w_end (q_then ?_)))))))
    obtain rfl := sj h
    exact ⟨_, rfl, _, σ58, fr_join ⟨rfl, rfl, rfl, rfl, rfl, trivial⟩, rfl, H.sel' [0, 1, 2, 3, 4] rfl rfl, (hn59.trans hn4)⟩
  ·replace h := bif_f hb5 h
   refine c_exit (q_then_x (q_then_x (q_blk_hit ?_)))
   obtain rfl := sj h
   obtain rfl := hres _ rfl
   exact ⟨rfl, _, σ3, fr_join ⟨rfl, rfl, trivial⟩, rfl, H.sel' [0, 1, 2, 3, 4] rfl rfl, hn4⟩
 ·clear hj
  have h := h'
  clear h' H
  rintro e a w ⟨rfl, ρ, σ60, rfl, rfl, H, hn61⟩
  obtain rfl := sj h
  exact fin_end (v := (.tuple #[])) (results_ok Tryz.results103 res_nil rfl) ⟨rfl, rfl, hn61⟩ (H.sel' [0, 2, 4] rfl rfl)

theorem c_slices_swapRangeCmpFunc_int__impl_ProbeOrder_1 {Ge : List Int} {Ej : Int} {Ek : Int} {Gy : Int} {Gz : List (List Int)} {Ha : List Int} {Gh : Option Addr} {Gi : Nat} {Hc : Option Addr} {Hd : Nat} {He Hf Hg : Nat} {Hi Hj : List Value} {Hk : Option Addr} {Hl : Nat} {Hm Hn Ho : Nat} {Hq Hr : List Value} {r : (List Int)} (h : M.slices_swapRangeCmpFunc_int__impl_ProbeOrder_1 Ge Ej Ek Gy Gz Ha = some r) :
    Cal2 Tryz.prog 119 [(Sl Gh Ge Gi), (I Ej), (I Ek), (I Gy), (.func (.func 78) #[] #[(pt Hf Hg), (pt Hn Ho)])] [Ch.own 0 0 (Sl Gh Ge Gi) Ge, Ch.bx He Hf Hg [(Sl Hc Gz Hd)] Hi Hj, Ch.ro 0 (Sl Hc Gz Hd) Gz, Ch.bx Hm Hn Ho [(Sl Hk Ha Hl)] Hq Hr, Ch.ro 0 (Sl Hk Ha Hl) Ha] (fun n0 v L => v = (.tuple #[]) ∧ L = [Ch.own 0 0 (Sl Gh r Gi) r, Ch.bx He Hf Hg [(Sl Hc Gz Hd)] Hi Hj, Ch.bx Hm Hn Ho [(Sl Hk Ha Hl)] Hq Hr] ∧ r.length = Ge.length) := by
 refine cal2 (n := 38) Tryz.func119 rfl rfl rfl rfl ?_
 intro S0 σ0 n0 hn0 H
 unfold M.slices_swapRangeCmpFunc_int__impl_ProbeOrder_1 at h
 refine c_seq (rg (sa (I 0) rfl (w_end (q_then ?_))))
 obtain ⟨o1, hj, h'⟩ := bind_some h
 clear h
 refine c_cut (fun e a w => e = .normal ∧ ∃ (ρ : Nat → Value) (σ : St), a = fr 38 (updL ρ [(0, (Sl Gh o1 Gi)), (4, (.func (.func 78) #[] #[(pt Hf Hg), (pt Hn Ho)]))]) ∧ w = σ.w ∧ Hp S0 σ0 σ [Ch.own 0 0 (Sl Gh o1 Gi) o1, Ch.ro 0 (Sl Hc Gz Hd) Gz, Ch.bx He Hf Hg [(Sl Hc Gz Hd)] Hi Hj, Ch.ro 0 (Sl Hk Ha Hl) Ha, Ch.bx Hm Hn Ho [(Sl Hk Ha Hl)] Hq Hr] ∧ o1.length = Ge.length) ?_ ?_
 ·clear h'
  rename _ = some o1 => h
  refine c_blk (wp_loopM _ h (fun s2 a w => ∃ (ρ : Nat → Value) (σ : St), a = fr 38 (updL ρ [(0, (Sl Gh s2.1 Gi)), (1, (I Ej)), (2, (I Ek)), (3, (I Gy)), (4, (.func (.func 78) #[] #[(pt Hf Hg), (pt Hn Ho)])), (10, (I s2.2))]) ∧ w = σ.w ∧ Hp S0 σ0 σ [Ch.own 0 0 (Sl Gh s2.1 Gi) s2.1, Ch.ro 0 (Sl Hc Gz Hd) Gz, Ch.bx He Hf Hg [(Sl Hc Gz Hd)] Hi Hj, Ch.ro 0 (Sl Hk Ha Hl) Ha, Ch.bx Hm Hn Ho [(Sl Hk Ha Hl)] Hq Hr] ∧ s2.1.length = Ge.length) ⟨_, σ0, fr_join ⟨rfl, rfl, rfl, rfl, rfl, rfl, trivial⟩, rfl, H.sel' [0, 2, 1, 4, 3] rfl rfl, rfl⟩ ?_)
  clear h H
  rintro s2 a w o ⟨ρ, σ3, rfl, rfl, H, hn4⟩ h hres
  refine c_seq (c_seq (rg (sm (I s2.2) rfl (sm (I Gy) rfl (st (v := (B (decide (s2.2 < Gy)))) (rv_lss (a := s2.2) (b := Gy) rfl rfl) (w_end (q_then ?_)))))))
  refine cd_cond (decide (s2.2 < Gy)) rfl (fun hb5 => ?_) (fun hb5 => ?_)
  ·replace h := bif_t hb5 h
   refine c_skip (q_then (c_seq (c_blk ?_)))
   revert h; refine br fun x6 hx7 h => ?_
   obtain ⟨b9, o10, hi8, -⟩ := (H.own 0 rfl).ix hx7
   have hc11 := ((H.own 0 rfl).at hx7 hi8).int
   revert h; refine br fun x12 hx13 h => ?_
   obtain ⟨b15, o16, hi14, -⟩ := (H.own 0 rfl).ix hx13
   have hc17 := ((H.own 0 rfl).at hx13 hi14).int
   revert h; refine br fun x18 hx19 h => ?_
   obtain ⟨b21, o22, hi20, -⟩ := (H.own 0 rfl).ix hx19
   have Hs := H
   refine rg2 (σ := σ3) (Nm := Unit) 22 [21] [[false], [true]] [[(0, 0)], [(0, 0)], [(0, 0)], [(0, 0)], [(0, 0), (1, 1)], [(0, 0), (1, 1)], [(0, 0), (1, 1)], [(0, 0), (1, 1)], [(0, 0)], [(0, 0)], [(0, 0)], [(0, 0)], [(0, 0)], [(0, 0)], [(0, 0)], [(0, 0)], [(0, 0)], [(0, 0)], [(0, 0)], [(0, 0)], [(0, 0)], [(0, 1)]] 1 [fun _ => fun σm => Hp S0 σ0 σm [Ch.own 0 0 (Sl Gh s2.1 Gi) s2.1, Ch.ro 0 (Sl Hc Gz Hd) Gz, Ch.bx He Hf Hg [(Sl Hc Gz Hd)] Hi Hj, Ch.ro 0 (Sl Hk Ha Hl) Ha, Ch.bx Hm Hn Ho [(Sl Hk Ha Hl)] Hq Hr] ∧ Md (cov []) σ3 σm, fun _ => fun σm => Hp S0 σ0 σm [Ch.own 0 0 (Sl Gh s2.1 Gi) (s2.1.set (w64 (Ej + s2.2)).toNat x6), Ch.ro 0 (Sl Hc Gz Hd) Gz, Ch.bx He Hf Hg [(Sl Hc Gz Hd)] Hi Hj, Ch.ro 0 (Sl Hk Ha Hl) Ha, Ch.bx Hm Hn Ho [(Sl Hk Ha Hl)] Hq Hr] ∧ Md (fun i => (cov []) i ∨ (fun b => blk (Sl Gh s2.1 Gi) = some b) i) σ3 σm] [fun _ => (Sl Gh s2.1 Gi), fun _ => (I Ej), fun _ => (I s2.2), fun _ => (I (w64 (Ej + s2.2))), fun _ => (Sl Gh s2.1 Gi), fun _ => (I Ek), fun _ => (I s2.2), fun _ => (I (w64 (Ek + s2.2))), fun _ => (Sl Gh s2.1 Gi), fun _ => (I Ek), fun _ => (I s2.2), fun _ => (I (w64 (Ek + s2.2))), fun _ => (pt b9 o10), fun _ => (I x6), fun _ => (Sl Gh s2.1 Gi), fun _ => (I Ej), fun _ => (I s2.2), fun _ => (I (w64 (Ej + s2.2))), fun _ => (pt b15 o16), fun _ => (I x12), fun _ => (pt b21 o22), fun _ => undef] () (by kernel_rfl) (by kernel_rfl) ?_ ?_ ?_
   ·intro σm m0
    exact ⟨H.grow (m0.mono fun _ h => h.elim), m0⟩
   ·refine ac rfl (by
      intro k _nm ρ σm hJ hoff hdep
      have e0 := look_off (N := 38) (hoff 0 rfl) rfl
      exact dp_v (v := (Sl Gh s2.1 Gi)) wn (rv_move e0) rfl hJ) ?_
    refine ac rfl (by
      intro k _nm ρ σm hJ hoff hdep
      have e1 := look_off (N := 38) (hoff 1 rfl) rfl
      exact dp_v (v := (I Ej)) wn (rv_move e1) rfl hJ) ?_
    refine ac rfl (by
      intro k _nm ρ σm hJ hoff hdep
      have e10 := look_off (N := 38) (hoff 10 rfl) rfl
      exact dp_v (v := (I s2.2)) wn (rv_move e10) rfl hJ) ?_
    refine ac rfl (by
      intro k _nm ρ σm hJ hoff hdep
      have e17 := hdep 1 rfl rfl 17 rfl
      have e18 := hdep 2 rfl rfl 18 rfl
      exact dp_v (v := (I (w64 (Ej + s2.2)))) wn (rv_add (a := Ej) (b := s2.2) e17 e18) rfl hJ) ?_
    refine ac rfl (by
      intro k _nm ρ σm hJ hoff hdep
      have e0 := look_off (N := 38) (hoff 0 rfl) rfl
      exact dp_v (v := (Sl Gh s2.1 Gi)) wn (rv_move e0) rfl hJ) ?_
    refine ac rfl (by
      intro k _nm ρ σm hJ hoff hdep
      have e2 := look_off (N := 38) (hoff 2 rfl) rfl
      exact dp_v (v := (I Ek)) wn (rv_move e2) rfl hJ) ?_
    refine ac rfl (by
      intro k _nm ρ σm hJ hoff hdep
      have e10 := look_off (N := 38) (hoff 10 rfl) rfl
      exact dp_v (v := (I s2.2)) wn (rv_move e10) rfl hJ) ?_
    refine ac rfl (by
      intro k _nm ρ σm hJ hoff hdep
      have e21 := hdep 5 rfl rfl 21 rfl
      have e22 := hdep 6 rfl rfl 22 rfl
      exact dp_v (v := (I (w64 (Ek + s2.2)))) wn (rv_add (a := Ek) (b := s2.2) e21 e22) rfl hJ) ?_
    refine ac rfl (by
      intro k _nm ρ σm hJ hoff hdep
      have e0 := look_off (N := 38) (hoff 0 rfl) rfl
      exact dp_v (v := (Sl Gh s2.1 Gi)) wn (rv_move e0) rfl hJ) ?_
    refine ac rfl (by
      intro k _nm ρ σm hJ hoff hdep
      have e2 := look_off (N := 38) (hoff 2 rfl) rfl
      exact dp_v (v := (I Ek)) wn (rv_move e2) rfl hJ) ?_
    refine ac rfl (by
      intro k _nm ρ σm hJ hoff hdep
      have e10 := look_off (N := 38) (hoff 10 rfl) rfl
      exact dp_v (v := (I s2.2)) wn (rv_move e10) rfl hJ) ?_
    refine ac rfl (by
      intro k _nm ρ σm hJ hoff hdep
      have e25 := hdep 9 rfl rfl 25 rfl
      have e26 := hdep 10 rfl rfl 26 rfl
      exact dp_v (v := (I (w64 (Ek + s2.2)))) wn (rv_add (a := Ek) (b := s2.2) e25 e26) rfl hJ) ?_
    refine ac rfl (by
      intro k _nm ρ σm hJ hoff hdep
      have e24 := hdep 8 rfl rfl 24 rfl
      have e27 := hdep 11 rfl rfl 27 rfl
      exact dp_v (v := (pt b9 o10)) wn (rv_ix Tryz.underlying25 ti3 e24 e27 hi8) rfl hJ) ?_
    refine all_cons (by
      refine ⟨?_, ?_⟩
      ·intro _nm ρ σm hJ hoff hdep
       have e28 := hdep 12 rfl rfl 28 rfl
       obtain ⟨H, m⟩ := id hJ
       have hc11 := ((H.own 0 rfl).at hx7 hi8).int
       exact dp_v (v := (I x6)) wn (rv_load1 Tryz.underlying3 rfl e28 hc11) rfl hJ
      trivial) ?_
    refine ac rfl (by
      intro k _nm ρ σm hJ hoff hdep
      have e0 := look_off (N := 38) (hoff 0 rfl) rfl
      exact dp_v (v := (Sl Gh s2.1 Gi)) wn (rv_move e0) rfl hJ) ?_
    refine ac rfl (by
      intro k _nm ρ σm hJ hoff hdep
      have e1 := look_off (N := 38) (hoff 1 rfl) rfl
      exact dp_v (v := (I Ej)) wn (rv_move e1) rfl hJ) ?_
    refine ac rfl (by
      intro k _nm ρ σm hJ hoff hdep
      have e10 := look_off (N := 38) (hoff 10 rfl) rfl
      exact dp_v (v := (I s2.2)) wn (rv_move e10) rfl hJ) ?_
    refine ac rfl (by
      intro k _nm ρ σm hJ hoff hdep
      have e31 := hdep 15 rfl rfl 31 rfl
      have e32 := hdep 16 rfl rfl 32 rfl
      exact dp_v (v := (I (w64 (Ej + s2.2)))) wn (rv_add (a := Ej) (b := s2.2) e31 e32) rfl hJ) ?_
    refine ac rfl (by
      intro k _nm ρ σm hJ hoff hdep
      have e30 := hdep 14 rfl rfl 30 rfl
      have e33 := hdep 17 rfl rfl 33 rfl
      exact dp_v (v := (pt b15 o16)) wn (rv_ix Tryz.underlying25 ti3 e30 e33 hi14) rfl hJ) ?_
    refine all_cons (by
      refine ⟨?_, ?_⟩
      ·intro _nm ρ σm hJ hoff hdep
       have e34 := hdep 18 rfl rfl 34 rfl
       obtain ⟨H, m⟩ := id hJ
       have hc17 := ((H.own 0 rfl).at hx13 hi14).int
       exact dp_v (v := (I x12)) wn (rv_load1 Tryz.underlying3 rfl e34 hc17) rfl hJ
      trivial) ?_
    refine ac rfl (by
      intro k _nm ρ σm hJ hoff hdep
      have e16 := hdep 0 rfl rfl 16 rfl
      have e19 := hdep 3 rfl rfl 19 rfl
      exact dp_v (v := (pt b21 o22)) wn (rv_ix Tryz.underlying25 ti3 e16 e19 hi20) rfl hJ) ?_
    refine all_cons (by
      refine ⟨?_, ?_⟩
      ·intro _nm ρ σm hJ hoff hdep
       have e36 := hdep 20 rfl rfl 36 rfl
       have e29 := hdep 13 rfl rfl 29 rfl
       obtain ⟨H, m⟩ := id hJ
       refine dp_exS wn rfl (ex_store_own (e' := x6) (vs := [(I x6)]) (k := 0) H (i := 0) rfl ti3 hx19 hi20 e36 rfl e29 rfl rfl (Nat.le_of_ble_eq_true rfl) (by simp [plain]) (by rintro _ rfl; exact rfl)) ?_
       rintro σq ⟨H2, m2⟩
       exact ⟨_, (), rfl, ⟨H2.sel' [0, 1, 2, 3, 4] rfl rfl, m.comp m2⟩, stab [0, 1, 2, 3, 4, 5, 6, 7, 8, 9, 10, 11, 12, 13, 14, 15, 16, 17, 18, 19, 20] (by kernel_rfl) ⟨rfl, rfl, rfl, rfl, rfl, rfl, rfl, rfl, rfl, rfl, rfl, rfl, rfl, rfl, rfl, rfl, rfl, rfl, rfl, rfl, rfl, trivial⟩⟩
      trivial) ?_
    exact all_nil
   ·intro _nm ρ σ23 hJ hoff hrel
    have e0 := look_off (N := 38) (hoff 0 rfl) rfl
    have e1 := look_off (N := 38) (hoff 1 rfl) rfl
    have e2 := look_off (N := 38) (hoff 2 rfl) rfl
    have e3 := look_off (N := 38) (hoff 3 rfl) rfl
    have e4 := look_off (N := 38) (hoff 4 rfl) rfl
    have e10 := look_off (N := 38) (hoff 10 rfl) rfl
    have e20 := hrel 4 rfl 20 rfl
    have e23 := hrel 7 rfl 23 rfl
    have e35 := hrel 19 rfl 35 rfl
    obtain ⟨H, -⟩ := (show Hp S0 σ0 σ23 [Ch.own 0 0 (Sl Gh s2.1 Gi) (s2.1.set (w64 (Ej + s2.2)).toNat x6), Ch.ro 0 (Sl Hc Gz Hd) Gz, Ch.bx He Hf Hg [(Sl Hc Gz Hd)] Hi Hj, Ch.ro 0 (Sl Hk Ha Hl) Ha, Ch.bx Hm Hn Ho [(Sl Hk Ha Hl)] Hq Hr] ∧ Md (fun i => (cov []) i ∨ (fun b => blk (Sl Gh s2.1 Gi) = some b) i) σ3 σ23 from hJ)
    clear hJ Hs
    rw [fr_lookL (L := [(0, (Sl Gh s2.1 Gi)), (1, (I Ej)), (2, (I Ek)), (3, (I Gy)), (4, (.func (.func 78) #[] #[(pt Hf Hg), (pt Hn Ho)])), (10, (I s2.2)), (20, (Sl Gh s2.1 Gi)), (23, (I (w64 (Ek + s2.2)))), (35, (I x12))]) ⟨e0, e1, e2, e3, e4, e10, e20, e23, e35, trivial⟩]
    clear hoff hrel e0 e1 e2 e3 e4 e10 e20 e23 e35
    have hsl : (Sl Gh s2.1 Gi) = (Sl Gh (s2.1.set (w64 (Ej + s2.2)).toNat x6) Gi) := sl_len (by simp)
    rw [hsl]; rw [hsl] at H; clear hsl
    revert h; refine br fun x24 hx25 h => ?_
    obtain ⟨b27, o28, hi26, -⟩ := (H.own 0 rfl).ix hx25
    refine st (v := (pt b27 o28)) (rv_ix Tryz.underlying25 ti3 rfl rfl hi26) ?_
    refine st_exS (ex_store_own (e' := x12) (vs := [(I x12)]) (k := 0) H (i := 0) rfl ti3 hx25 hi26 rfl rfl rfl rfl rfl (Nat.le_of_ble_eq_true rfl) (by simp [plain]) (by rintro _ rfl; exact rfl)) wn ?_
    rintro σ29 ⟨H, -⟩
    have hsl : (Sl Gh (s2.1.set (w64 (Ej + s2.2)).toNat x6) Gi) = (Sl Gh ((s2.1.set (w64 (Ej + s2.2)).toNat x6).set (w64 (Ek + s2.2)).toNat x12) Gi) := sl_len List.length_set.symm
    rw [hsl]; rw [hsl] at H; clear hsl
    refine w_end (q_blk (q_then (rg (sm (I s2.2) rfl (st (v := (I (w64 (s2.2 + 1)))) (rv_add (a := s2.2) (b := 1) rfl rfl) (sa (I (w64 (s2.2 + 1))) rfl (w_end (q_then ?_))))))))
    obtain rfl := sj h
    exact ⟨_, rfl, _, σ29, fr_join ⟨rfl, rfl, rfl, rfl, rfl, rfl, trivial⟩, rfl, H.sel' [0, 1, 2, 3, 4] rfl rfl, (List.length_set.trans (List.length_set.trans hn4))⟩
  ·replace h := bif_f hb5 h
   refine c_exit (q_then_x (q_then_x (q_blk_hit ?_)))
   obtain rfl := sj h
   obtain rfl := hres _ rfl
   exact ⟨rfl, _, σ3, fr_join ⟨rfl, rfl, trivial⟩, rfl, H.sel' [0, 1, 2, 3, 4] rfl rfl, hn4⟩
 ·clear hj
  have h := h'
  clear h' H
  rintro e a w ⟨rfl, ρ, σ30, rfl, rfl, H, hn31⟩
  obtain rfl := sj h
  exact fin_end (v := (.tuple #[])) (results_ok Tryz.results119 res_nil rfl) ⟨rfl, rfl, hn31⟩ (H.sel' [0, 2, 4] rfl rfl)

theorem c_slices_rotateCmpFunc_int__impl_ProbeOrder_1 {Ge : List Int} {Ej : Int} {Ht : Int} {Hu : Int} {Gz : List (List Int)} {Ha : List Int} {Gh : Option Addr} {Gi : Nat} {Hc : Option Addr} {Hd : Nat} {He Hf Hg : Nat} {Hi Hj : List Value} {Hk : Option Addr} {Hl : Nat} {Hm Hn Ho : Nat} {Hq Hr : List Value} {r : (List Int)} (h : M.slices_rotateCmpFunc_int__impl_ProbeOrder_1 Ge Ej Ht Hu Gz Ha = some r) :
    Cal2 Tryz.prog 108 [(Sl Gh Ge Gi), (I Ej), (I Ht), (I Hu), (.func (.func 78) #[] #[(pt Hf Hg), (pt Hn Ho)])] [Ch.own 0 0 (Sl Gh Ge Gi) Ge, Ch.bx He Hf Hg [(Sl Hc Gz Hd)] Hi Hj, Ch.ro 0 (Sl Hc Gz Hd) Gz, Ch.bx Hm Hn Ho [(Sl Hk Ha Hl)] Hq Hr, Ch.ro 0 (Sl Hk Ha Hl) Ha] (fun n0 v L => v = (.tuple #[]) ∧ L = [Ch.own 0 0 (Sl Gh r Gi) r, Ch.bx He Hf Hg [(Sl Hc Gz Hd)] Hi Hj, Ch.bx Hm Hn Ho [(Sl Hk Ha Hl)] Hq Hr] ∧ r.length = Ge.length) := by
 refine cal2 (n := 58) Tryz.func108 rfl rfl rfl rfl ?_
 intro S0 σ0 n0 hn0 H
 unfold M.slices_rotateCmpFunc_int__impl_ProbeOrder_1 at h
 refine c_seq (rg (sm (I Ht) rfl (sm (I Ej) rfl (st (v := (I (w64 (Ht - Ej)))) (rv_sub (a := Ht) (b := Ej) rfl rfl) (sa (I (w64 (Ht - Ej))) rfl (w_end (q_then (c_seq (rg (sm (I Hu) rfl (sm (I Ht) rfl ?_)))))))))))
 refine st (v := (I (w64 (Hu - Ht)))) (rv_sub (a := Hu) (b := Ht) rfl rfl) (sa (I (w64 (Hu - Ht))) rfl (w_end (q_then (c_seq ?_))))
 obtain ⟨o1, hj, h'⟩ := bind_some h
 clear h
 refine c_cut (fun e a w => e = .normal ∧ ∃ (ρ : Nat → Value) (σ : St), a = fr 58 (updL ρ [(0, (Sl Gh o1.1 Gi)), (2, (I Ht)), (4, (.func (.func 78) #[] #[(pt Hf Hg), (pt Hn Ho)])), (10, (I o1.2))]) ∧ w = σ.w ∧ Hp S0 σ0 σ [Ch.own 0 0 (Sl Gh o1.1 Gi) o1.1, Ch.ro 0 (Sl Hc Gz Hd) Gz, Ch.bx He Hf Hg [(Sl Hc Gz Hd)] Hi Hj, Ch.ro 0 (Sl Hk Ha Hl) Ha, Ch.bx Hm Hn Ho [(Sl Hk Ha Hl)] Hq Hr] ∧ o1.1.length = Ge.length) ?_ ?_
 ·clear h'
  rename _ = some o1 => h
  refine c_blk (wp_loopM _ h (fun s2 a w => ∃ (ρ : Nat → Value) (σ : St), a = fr 58 (updL ρ [(0, (Sl Gh s2.1 Gi)), (2, (I Ht)), (4, (.func (.func 78) #[] #[(pt Hf Hg), (pt Hn Ho)])), (10, (I s2.2.1)), (11, (I s2.2.2))]) ∧ w = σ.w ∧ Hp S0 σ0 σ [Ch.own 0 0 (Sl Gh s2.1 Gi) s2.1, Ch.ro 0 (Sl Hc Gz Hd) Gz, Ch.bx He Hf Hg [(Sl Hc Gz Hd)] Hi Hj, Ch.ro 0 (Sl Hk Ha Hl) Ha, Ch.bx Hm Hn Ho [(Sl Hk Ha Hl)] Hq Hr] ∧ s2.1.length = Ge.length) ⟨_, σ0, fr_join ⟨rfl, rfl, rfl, rfl, rfl, trivial⟩, rfl, H.sel' [0, 2, 1, 4, 3] rfl rfl, rfl⟩ ?_)
  clear h H
  rintro s2 a w o ⟨ρ, σ3, rfl, rfl, H, hn4⟩ h hres
  refine c_seq (c_seq (rg (sm (I s2.2.1) rfl (sm (I s2.2.2) rfl (st (v := (B (s2.2.1 != s2.2.2))) (rv_neq (a := s2.2.1) (b := s2.2.2) rfl rfl) (w_end (q_then ?_)))))))
  refine cd_cond (s2.2.1 != s2.2.2) rfl (fun hb5 => ?_) (fun hb5 => ?_)
  ·replace h := bif_t hb5 h
   refine c_skip (q_then (c_blk (c_seq (rg (sm (I s2.2.1) rfl (sm (I s2.2.2) rfl (st (v := (B (decide (s2.2.2 < s2.2.1)))) (rv_gtr (a := s2.2.1) (b := s2.2.2) rfl rfl) (w_end (q_then ?_)))))))))
   refine cd_cond (decide (s2.2.2 < s2.2.1)) rfl (fun hb6 => ?_) (fun hb6 => ?_)
   ·replace h := bif_t hb6 h
    refine c_seq (rg (sm (Sl Gh s2.1 Gi) rfl (sm (I Ht) rfl (sm (I s2.2.1) rfl (st (v := (I (w64 (Ht - s2.2.1)))) (rv_sub (a := Ht) (b := s2.2.1) rfl rfl) (sm (I Ht) rfl (sm (I s2.2.2) rfl (sm (.func (.func 78) #[] #[(pt Hf Hg), (pt Hn Ho)]) rfl ?_))))))))
    revert h; refine br fun r7 hx8 h => ?_
    have hc9 := c_slices_swapRangeCmpFunc_int__impl_ProbeOrder_1 (Gh := Gh) (Gi := Gi) (He := He) (Hf := Hf) (Hg := Hg) (Hi := Hi) (Hj := Hj) (Hc := Hc) (Hd := Hd) (Hm := Hm) (Hn := Hn) (Ho := Ho) (Hq := Hq) (Hr := Hr) (Hk := Hk) (Hl := Hl) hx8
    refine st_call (cx_call hc9 (ent_f hc9.fn rfl) hn0 (H.sel' [0, 2, 1, 4, 3, 1, 3] rfl rfl : Hp S0 σ0 _ ([_, _, _, _, _] ++ _))) wn ?_
    rintro _ σ11 ⟨_, ⟨rfl, rfl, hn10⟩, H, -⟩
    replace H : Hp _ _ _ [_, _, _, _, _] := H
    have hsl : (Sl Gh s2.1 Gi) = (Sl Gh r7 Gi) := sl_len hn10.symm
    try rw [hsl]
    try rw [hsl] at H
    clear hsl
    refine w_end (q_then (rg (sm (I s2.2.1) rfl (sm (I s2.2.2) rfl (st (v := (I (w64 (s2.2.1 - s2.2.2)))) (rv_sub (a := s2.2.1) (b := s2.2.2) rfl rfl) (sa (I (w64 (s2.2.1 - s2.2.2))) rfl (w_end (q_blk (q_then ?_)))))))))
    obtain rfl := sj h
    exact ⟨_, rfl, _, σ11, fr_join ⟨rfl, rfl, rfl, rfl, rfl, trivial⟩, rfl, H.sel' [0, 3, 1, 4, 2] rfl rfl, (hn10.trans hn4)⟩
   ·replace h := bif_f hb6 h
    refine c_seq (rg (sm (Sl Gh s2.1 Gi) rfl (sm (I Ht) rfl (sm (I s2.2.1) rfl (st (v := (I (w64 (Ht - s2.2.1)))) (rv_sub (a := Ht) (b := s2.2.1) rfl rfl) (sm (I Ht) rfl (sm (I s2.2.2) rfl (st (v := (I (w64 (Ht + s2.2.2)))) (rv_add (a := Ht) (b := s2.2.2) rfl rfl) (sm (I s2.2.1) rfl (st (v := (I (w64 ((w64 (Ht + s2.2.2)) - s2.2.1)))) (rv_sub (a := (w64 (Ht + s2.2.2))) (b := s2.2.1) rfl rfl) (sm (I s2.2.1) rfl ?_)))))))))))
    refine sm (.func (.func 78) #[] #[(pt Hf Hg), (pt Hn Ho)]) rfl ?_
    revert h; refine br fun r12 hx13 h => ?_
    have hc14 := c_slices_swapRangeCmpFunc_int__impl_ProbeOrder_1 (Gh := Gh) (Gi := Gi) (He := He) (Hf := Hf) (Hg := Hg) (Hi := Hi) (Hj := Hj) (Hc := Hc) (Hd := Hd) (Hm := Hm) (Hn := Hn) (Ho := Ho) (Hq := Hq) (Hr := Hr) (Hk := Hk) (Hl := Hl) hx13
    refine st_call (cx_call hc14 (ent_f hc14.fn rfl) hn0 (H.sel' [0, 2, 1, 4, 3, 1, 3] rfl rfl : Hp S0 σ0 _ ([_, _, _, _, _] ++ _))) wn ?_
    rintro _ σ16 ⟨_, ⟨rfl, rfl, hn15⟩, H, -⟩
    replace H : Hp _ _ _ [_, _, _, _, _] := H
    have hsl : (Sl Gh s2.1 Gi) = (Sl Gh r12 Gi) := sl_len hn15.symm
    try rw [hsl]
    try rw [hsl] at H
    clear hsl
    refine w_end (q_then (rg (sm (I s2.2.2) rfl (sm (I s2.2.1) rfl (st (v := (I (w64 (s2.2.2 - s2.2.1)))) (rv_sub (a := s2.2.2) (b := s2.2.1) rfl rfl) (sa (I (w64 (s2.2.2 - s2.2.1))) rfl (w_end (q_blk (q_then ?_)))))))))
    obtain rfl := sj h
    exact ⟨_, rfl, _, σ16, fr_join ⟨rfl, rfl, rfl, rfl, rfl, trivial⟩, rfl, H.sel' [0, 3, 1, 4, 2] rfl rfl, (hn15.trans hn4)⟩
  ·replace h := bif_f hb5 h
   refine c_exit (q_then_x (q_then_x (q_blk_hit ?_)))
   obtain rfl := sj h
   obtain rfl := hres _ rfl
   exact ⟨rfl, _, σ3, fr_join ⟨rfl, rfl, rfl, rfl, trivial⟩, rfl, H.sel' [0, 1, 2, 3, 4] rfl rfl, hn4⟩
 ·clear hj
  have h := h'
  clear h' H
  rintro e a w ⟨rfl, ρ, σ17, rfl, rfl, H, hn18⟩
  refine q_then (rg (sm (Sl Gh o1.1 Gi) rfl (sm (I Ht) rfl (sm (I o1.2) rfl (st (v := (I (w64 (Ht - o1.2)))) (rv_sub (a := Ht) (b := o1.2) rfl rfl) (sm (I Ht) rfl (sm (I o1.2) rfl (sm (.func (.func 78) #[] #[(pt Hf Hg), (pt Hn Ho)]) rfl ?_))))))))
  revert h; refine br fun r19 hx20 h => ?_
  have hc21 := c_slices_swapRangeCmpFunc_int__impl_ProbeOrder_1 (Gh := Gh) (Gi := Gi) (He := He) (Hf := Hf) (Hg := Hg) (Hi := Hi) (Hj := Hj) (Hc := Hc) (Hd := Hd) (Hm := Hm) (Hn := Hn) (Ho := Ho) (Hq := Hq) (Hr := Hr) (Hk := Hk) (Hl := Hl) hx20
  refine st_call (cx_call hc21 (ent_f hc21.fn rfl) hn0 (H.sel' [0, 2, 1, 4, 3, 1, 3] rfl rfl : Hp S0 σ0 _ ([_, _, _, _, _] ++ _))) wn ?_
  rintro _ σ23 ⟨_, ⟨rfl, rfl, hn22⟩, H, -⟩
  replace H : Hp _ _ _ [_, _, _, _, _] := H
  have hsl : (Sl Gh o1.1 Gi) = (Sl Gh r19 Gi) := sl_len hn22.symm
  try rw [hsl]
  try rw [hsl] at H
  clear hsl
  refine w_end ?_
  obtain rfl := sj h
  exact fin_end (v := (.tuple #[])) (results_ok Tryz.results108 res_nil rfl) ⟨rfl, rfl, (hn22.trans hn18)⟩ (H.sel' [0, 1, 2] rfl rfl)

end Go.Vs
