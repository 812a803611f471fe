/- The functions compute what their models say. -/
import Derived.Test.YtbbddfckcpfoaaaGreatKHashNearestC5
set_option linter.unusedVariables false
set_option linter.unusedSimpArgs false
set_option maxRecDepth 20000
namespace Go.Vs
open Go Go.Proofs
attribute [local irreducible] Code.wp Code.wpIn wpList wpListIn wpQuiet Calls CallsIn

theorem c_spec_HashNearest {Fs : List (List Int)} {Fk : List (Int × (List Int) × Int)} {Bb : List Int} {Hd : Int} {He : Int} {Fu : Option Addr} {Fv : Nat} {Fl : Option Addr} {Fm : Nat} {Bd : Option Addr} {Be : Nat} {r : (List (Int × Int))} (h : M.spec_HashNearest Fs Fk Bb Hd He = some r) :
    Cal2 Tryz.prog 27 [(Sl Fu Fs Fv), (Sl Fl Fk Fm), (Sl Bd Bb Be), (I Hd), (I He)] [Ch.ro 0 (Sl Fu Fs Fv) Fs, Ch.ro 0 (Sl Fl Fk Fm) Fk, Ch.ro 0 (Sl Bd Bb Be) Bb] (fun n0 v L => ∃ (az1 : Option Addr), ∃ (cz2 : Nat), v = (Sl az1 r cz2) ∧ L = [Ch.own n0 n0 (Sl az1 r cz2) r]) := by
 refine cal2 (n := 63) Tryz.func27 rfl rfl rfl rfl ?_
 intro S0 σ0 n0 hn0 H
 unfold M.spec_HashNearest at h
 refine c_seq (rg (sa (.slice none 0 0) rfl (w_end (q_then (c_seq (c_seq ?_))))))
 obtain ⟨o1, hj, h'⟩ := bind_some h
 clear h
 refine c_cut (fun e a w => e = .normal ∧ ∃ (ρ : Nat → Value) (σ : St), a = fr 63 (updL ρ [(0, (Sl Fu Fs Fv)), (1, (Sl Fl Fk Fm)), (2, (Sl Bd Bb Be)), (3, (I Hd)), (4, (I He)), (32, (B o1))]) ∧ w = σ.w ∧ Hp S0 σ0 σ [Ch.ro 0 (Sl Fu Fs Fv) Fs, Ch.ro 0 (Sl Fl Fk Fm) Fk, Ch.ro 0 (Sl Bd Bb Be) Bb]) ?_ ?_
 ·clear h'
  rename _ = some o1 => h
  refine rg (sm (Sl Fu Fs Fv) rfl ?_)
  revert h; refine br fun r2 hx3 h => ?_
  have hc4 := c_spec_validPlanes (Aw := Fu) (Ax := Fv) hx3
  refine st_call (cx_call hc4 (ent_f hc4.fn rfl) hn0 (H.sel' [0, 0, 1, 2] rfl rfl : Hp S0 σ0 _ ([_] ++ _))) wn ?_
  rintro _ σ5 ⟨_, ⟨rfl, rfl⟩, H, -⟩
  replace H : Hp _ _ _ [_, _, _] := H
  refine st (v := (B (!r2))) (rv_not rfl) (sm (B (!r2)) rfl ?_)
  rcases Bool.eq_false_or_eq_true (!r2) with hb6 | hb6
  ·replace h := bif_t hb6 h
   refine st_skip (congrArg some hb6) (st_skip (congrArg some hb6) (st_skip (congrArg some hb6) (st_skip (congrArg some hb6) (st (v := (B true)) (rv_pick_t (congrArg B hb6) rfl) (sm (B true) rfl (st_skip rfl (st_skip rfl (st_skip rfl (st (v := (B true)) (rv_pick_t rfl rfl) (sm (B true) rfl (st_skip rfl ?_)))))))))))
   refine st_skip rfl (st_skip rfl (st (v := (B true)) (rv_pick_t rfl rfl) (w_end ?_)))
   obtain rfl := sj h
   exact ⟨rfl, _, σ5, fr_join ⟨rfl, rfl, rfl, rfl, rfl, rfl, trivial⟩, rfl, H.sel' [0, 1, 2] rfl rfl⟩
  ·replace h := bif_f hb6 h
   refine st_g (v := (Sl Fl Fk Fm)) (congrArg some hb6) (rv_move rfl) (st_g (v := (Sl Bd Bb Be)) (congrArg some hb6) (rv_move rfl) ?_)
   revert h; refine br fun r7 hx8 h => ?_
   have hc9 := c_spec_validQuery (Aw := Fl) (Ax := Fm) (Bd := Bd) (Be := Be) hx8
   refine st_call (cx_call hc9 (ent_f hc9.fn rfl) hn0 (H.sel' [1, 2, 0, 1, 2] rfl rfl : Hp S0 σ0 _ ([_, _] ++ _))) (wanted_yes rfl (by exact (congrArg some hb6))) ?_
   rintro _ σ10 ⟨_, ⟨rfl, rfl⟩, H, -⟩
   replace H : Hp _ _ _ [_, _, _] := H
   refine st_g (v := (B (!r7))) (congrArg some hb6) (rv_not rfl) (st (v := (B (!r7))) (rv_pick_f (congrArg B hb6) rfl) (sm (B (!r7)) rfl ?_))
   rcases Bool.eq_false_or_eq_true (!r7) with hb11 | hb11
   ·replace h := bif_t hb11 h
    refine st_skip (congrArg some hb11) (st_skip (congrArg some hb11) (st_skip (congrArg some hb11) (st (v := (B true)) (rv_pick_t (congrArg B hb11) rfl) (sm (B true) rfl (st_skip rfl (st_skip rfl (st_skip rfl (st (v := (B true)) (rv_pick_t rfl rfl) (w_end ?_)))))))))
    obtain rfl := sj h
    exact ⟨rfl, _, σ10, fr_join ⟨rfl, rfl, rfl, rfl, rfl, rfl, trivial⟩, rfl, H.sel' [0, 1, 2] rfl rfl⟩
   ·replace h := bif_f hb11 h
    refine st_g (v := (I Hd)) (congrArg some hb11) (rv_move rfl) ?_
    revert h; refine br fun r12 hx13 h => ?_
    have hc14 := c_spec_inRange hx13
    refine st_call (cx_call hc14 (ent_f hc14.fn rfl) hn0 (H.sel' [0, 1, 2] rfl rfl : Hp S0 σ0 _ ([] ++ _))) (wanted_yes rfl (by exact (congrArg some hb11))) ?_
    rintro _ σ15 ⟨_, ⟨rfl, rfl⟩, H, -⟩
    replace H : Hp _ _ _ [_, _, _] := H
    refine st_g (v := (B (!r12))) (congrArg some hb11) (rv_not rfl) (st (v := (B (!r12))) (rv_pick_f (congrArg B hb11) rfl) (sm (B (!r12)) rfl ?_))
    rcases Bool.eq_false_or_eq_true (!r12) with hb16 | hb16
    ·replace h := bif_t hb16 h
     refine st_skip (congrArg some hb16) (st_skip (congrArg some hb16) (st_skip (congrArg some hb16) (st (v := (B true)) (rv_pick_t (congrArg B hb16) rfl) (w_end ?_))))
     obtain rfl := sj h
     exact ⟨rfl, _, σ15, fr_join ⟨rfl, rfl, rfl, rfl, rfl, rfl, trivial⟩, rfl, H.sel' [0, 1, 2] rfl rfl⟩
    ·replace h := bif_f hb16 h
     refine st_g (v := (I He)) (congrArg some hb16) (rv_move rfl) ?_
     revert h; refine br fun r17 hx18 h => ?_
     have hc19 := c_spec_inRange hx18
     refine st_call (cx_call hc19 (ent_f hc19.fn rfl) hn0 (H.sel' [0, 1, 2] rfl rfl : Hp S0 σ0 _ ([] ++ _))) (wanted_yes rfl (by exact (congrArg some hb16))) ?_
     rintro _ σ20 ⟨_, ⟨rfl, rfl⟩, H, -⟩
     replace H : Hp _ _ _ [_, _, _] := H
     refine st_g (v := (B (!r17))) (congrArg some hb16) (rv_not rfl) (st (v := (B (!r17))) (rv_pick_f (congrArg B hb16) rfl) (w_end ?_))
     obtain rfl := sj h
     exact ⟨rfl, _, σ20, fr_join ⟨rfl, rfl, rfl, rfl, rfl, rfl, trivial⟩, rfl, H.sel' [0, 1, 2] rfl rfl⟩
 ·clear hj
  have h := h'
  clear h' H
  rintro e a w ⟨rfl, ρ, σ21, rfl, rfl, H⟩
  refine q_then ?_
  refine cd_cond o1 rfl (fun hb22 => ?_) (fun hb22 => ?_)
  ·replace h := bif_t hb22 h
   refine c_seq (rg (sa (.slice none 0 0) rfl (w_end (q_then (c_ret (q_then_r ?_))))))
   replace H := H.nilOwn (Int × Int) n0 n0
   obtain rfl := sj h
   exact fin_ret (v := (.slice none 0 0)) (results_ok Tryz.results27 (res_tmp (v := (.slice none 0 0)) rfl res_nil) rfl) ⟨none, 0, rfl, rfl⟩ (H.sel' [0] rfl rfl)
  ·replace h := bif_f hb22 h
   refine c_skip (q_then (c_seq (rg (sm (Sl Fu Fs Fv) rfl (sm (Sl Fl Fk Fm) rfl (sm (Sl Bd Bb Be) rfl (sm (I Hd) rfl ?_)))))))
   revert h; refine br fun r23 hx24 h => ?_
   have hc25 := c_spec_BucketOf (Fu := Fu) (Fv := Fv) (Fl := Fl) (Fm := Fm) (Bd := Bd) (Be := Be) hx24
   refine st_call (cx_call hc25 (ent_f hc25.fn rfl) hn0 (H.sel' [0, 1, 2, 0, 1, 2] rfl rfl : Hp S0 σ0 _ ([_, _, _] ++ _))) wn ?_
   rintro _ σ28 ⟨_, ⟨a26, c27, rfl, rfl⟩, H, -⟩
   replace H : Hp _ _ _ [_, _, _, _] := H
   refine sa (Sl a26 r23 c27) rfl (w_end (q_then (c_seq (rg ?_))))
   refine st_ex (ex_buildSlice (el := n0) (xs := ([] : List (Int × (List Int) × Int))) (ps := []) (cs := []) H hn0 Tryz.underlying26 ti34 rfl rfl (by kernel_rfl) (.nil) rfl) wn ?_
   rintro _ σ30 ⟨b29, rfl, H, -⟩
   refine sa (Sl (some ⟨b29, 0, none⟩) ([] : List (Int × (List Int) × Int)) 0) rfl (w_end (q_then (c_seq (c_seq (rg (sa (I 0) rfl (w_end (q_then ?_))))))))
   obtain ⟨o31, hj, h'⟩ := bind_some h
   clear h
   refine c_cut (fun e a w => e = .normal ∧ ∃ (ρ : Nat → Value) (σ : St) (aj1 : Option Addr) (cj2 : Nat), a = fr 63 (updL ρ [(2, (Sl Bd Bb Be)), (4, (I He)), (12, (Sl aj1 o31 cj2))]) ∧ w = σ.w ∧ Hp S0 σ0 σ [Ch.ro 0 (Sl Bd Bb Be) Bb, Ch.own n0 0 (Sl aj1 o31 cj2) o31]) ?_ ?_
   ·clear h'
    rename _ = some o31 => h
    refine c_blk ?_
    replace H := H.ownLow 0 n0 0 rfl (Nat.le_refl _) (Nat.zero_le _)
    refine wp_loopM _ h (fun s32 a w => ∃ (ρ : Nat → Value) (σ : St) (aj1 : Option Addr) (cj2 : Nat), a = fr 63 (updL ρ [(1, (Sl Fl Fk Fm)), (2, (Sl Bd Bb Be)), (4, (I He)), (11, (Sl a26 r23 c27)), (12, (Sl aj1 s32.1 cj2)), (13, (I s32.2))]) ∧ w = σ.w ∧ Hp S0 σ0 σ [Ch.ro 0 (Sl Fl Fk Fm) Fk, Ch.ro 0 (Sl Bd Bb Be) Bb, Ch.own n0 n0 (Sl a26 r23 c27) r23, Ch.own n0 0 (Sl aj1 s32.1 cj2) s32.1]) ⟨_, σ30, (some ⟨b29, 0, none⟩), 0, fr_join ⟨rfl, rfl, rfl, rfl, rfl, rfl, trivial⟩, rfl, H.sel' [3, 4, 1, 0] rfl rfl⟩ ?_
    clear h H
    rintro s32 a w o ⟨ρ, σ33, a34, c35, rfl, rfl, H⟩ h hres
    refine c_seq (c_seq (rg (sm (I s32.2) rfl (sm (Sl Fl Fk Fm) rfl (st (v := (I (Fk.length : Int))) (rv_len Tryz.underlying26 rfl) (st (v := (B (decide (s32.2 < (Fk.length : Int))))) (rv_lss (a := s32.2) (b := (Fk.length : Int)) rfl rfl) (w_end (q_then ?_))))))))
    refine cd_cond (decide (s32.2 < (Fk.length : Int))) rfl (fun hb36 => ?_) (fun hb36 => ?_)
    ·replace h := bif_t hb36 h
     refine c_skip (q_then (c_seq ?_))
     obtain ⟨o37, hj, h'⟩ := bind_some h
     clear h
     refine c_cut (fun e a w => e = .normal ∧ ∃ (ρ : Nat → Value) (σ : St) (aj1 : Option Addr) (cj2 : Nat), a = fr 63 (updL ρ [(1, (Sl Fl Fk Fm)), (2, (Sl Bd Bb Be)), (4, (I He)), (11, (Sl a26 r23 c27)), (12, (Sl aj1 o37 cj2)), (13, (I s32.2))]) ∧ w = σ.w ∧ Hp S0 σ0 σ [Ch.ro 0 (Sl Fl Fk Fm) Fk, Ch.ro 0 (Sl Bd Bb Be) Bb, Ch.own n0 n0 (Sl a26 r23 c27) r23, Ch.own n0 0 (Sl aj1 o37 cj2) o37]) ?_ ?_
     ·clear h'
      rename _ = some o37 => h
      refine c_blk (c_seq (rg (sm (Sl a26 r23 c27) rfl (sm (Sl Fl Fk Fm) rfl (sm (I s32.2) rfl ?_)))))
      revert h; refine br fun x38 hx39 h => ?_
      obtain ⟨b41, o42, hi40, -⟩ := (H.ro 0 rfl).ix hx39
      refine st (v := (pt b41 o42)) (rv_ix Tryz.underlying26 ti34 rfl rfl hi40) (st (v := (pt b41 (o42 + 0))) (rv_fieldAddr (off := 0) (ft := 3) Tryz.underlying34 rfl ti3 rfl rfl) ?_)
      have hc43 := ((H.ro 0 rfl).at hx39 hi40).fst.int
      refine st (v := (I x38.1)) (rv_load1 Tryz.underlying3 rfl rfl hc43) ?_
      revert h; refine br fun r44 hx45 h => ?_
      have hc46 := c_spec_isIn (Aw := a26) (Ax := c27) hx45
      have hle := Nat.le_trans hn0 H.size
      refine st_call (cx_lend (Loan.lend Loan.nil) hc46 (ent_f hc46.fn rfl) (show Hp S0 σ0 _ ([Ch.own n0 n0 (Sl a26 r23 c27) r23] ++ ([] ++ [Ch.ro 0 (Sl Fl Fk Fm) Fk, Ch.ro 0 (Sl Bd Bb Be) Bb, Ch.own n0 0 (Sl a34 s32.1 c35) s32.1])) from (H.sel' [2, 0, 1, 3] rfl rfl)) (by rintro _ _ _ ⟨rfl, rfl⟩; exact trivial)) wn ?_
      rintro _ σ47 ⟨_, ⟨rfl, rfl⟩, H, -, -⟩
      replace H : Hp _ _ _ [_, _, _, _] := H
      clear hle
      replace H : Hp _ _ _ [_, _, _, _] := H
      refine w_end (q_then ?_)
      refine cd_cond r44 rfl (fun hb48 => ?_) (fun hb48 => ?_)
      ·replace h := bif_t hb48 h
       refine rg (sm (Sl a34 s32.1 c35) rfl (sm (Sl Fl Fk Fm) rfl (sm (I s32.2) rfl ?_)))
       revert h; refine br fun x49 hx50 h => ?_
       obtain ⟨b52, o53, hi51, -⟩ := (H.ro 1 rfl).ix hx50
       refine st (v := (pt b52 o53)) (rv_ix Tryz.underlying26 ti34 rfl rfl hi51) ?_
       obtain ⟨_, ⟨_, _, rfl, rfl, ⟨_, _, rfl, ⟨_, rfl, hR58⟩, rfl⟩⟩, hl54, hc55⟩ := ((H.ro 1 rfl).at hx50 hi51).cells
       obtain ⟨a56, c57, rfl⟩ := hR58.isSl
       replace H := H.add (d := Ch.ro 0 (Sl a56 x49.2.1 c57) x49.2.1) hR58 (fun _ h => h)
       clear hR58
       refine st (v := (.agg #[(I x49.1), (Sl a56 x49.2.1 c57), (I x49.2.2)])) (rv_load Tryz.underlying34 rfl ti34 rfl hl54 hc55) ?_
       refine st_ex (ex_buildSlice (el := 0) (xs := ([(x49.1, x49.2.1, x49.2.2)] : List (Int × (List Int) × Int))) (ps := [(0, (.agg #[(I x49.1), (Sl a56 x49.2.1 c57), (I x49.2.2)]))]) (cs := [(I x49.1), (Sl a56 x49.2.1 c57), (I x49.2.2)]) H hn0 Tryz.underlying26 ti34 rfl rfl (by kernel_rfl) (.cons (c := [(I x49.1), (Sl a56 x49.2.1 c57), (I x49.2.2)]) ⟨[(I x49.1)], [(Sl a56 x49.2.1 c57), (I x49.2.2)], rfl, rfl, ⟨[(Sl a56 x49.2.1 c57)], [(I x49.2.2)], rfl, ⟨_, rfl, (H.ro 0 rfl)⟩, rfl⟩⟩ (.nil)) rfl) wn ?_
       rintro _ σ60 ⟨b59, rfl, H, -⟩
       revert h; refine br fun xs61 hx62 h => ?_
       refine st_ex (ex_append H (i := 5) rfl Tryz.underlying26 Tryz.underlying26 ti34 rfl rfl (by decide) (H.own 0 rfl).rd hx62 hn0 rfl rfl) wn ?_
       rintro _ σ65 ⟨a63, c64, rfl, H, -⟩
       refine sa (Sl a63 xs61 c64) rfl (w_end (q_blk ?_))
       obtain rfl := sj h
       exact ⟨rfl, _, σ65, a63, c64, fr_join ⟨rfl, rfl, rfl, rfl, rfl, rfl, trivial⟩, rfl, H.sel' [4, 5, 3, 0] rfl rfl⟩
      ·replace h := bif_f hb48 h
       refine c_skip (q_blk ?_)
       obtain rfl := sj h
       exact ⟨rfl, _, σ47, a34, c35, fr_join ⟨rfl, rfl, rfl, rfl, rfl, rfl, trivial⟩, rfl, H.sel' [1, 2, 0, 3] rfl rfl⟩
     ·clear hj
      have h := h'
      clear h' H
      rintro e a w ⟨rfl, ρ, σ66, a67, c68, rfl, rfl, H⟩
      refine q_then (rg (sm (I s32.2) rfl (st (v := (I (w64 (s32.2 + 1)))) (rv_add (a := s32.2) (b := 1) rfl rfl) (sa (I (w64 (s32.2 + 1))) rfl (w_end (q_then ?_))))))
      obtain rfl := sj h
      exact ⟨_, rfl, _, σ66, a67, c68, fr_join ⟨rfl, rfl, rfl, rfl, rfl, rfl, trivial⟩, rfl, H.sel' [0, 1, 2, 3] rfl rfl⟩
    ·replace h := bif_f hb36 h
     refine c_exit (q_then_x (q_then_x (q_blk_hit ?_)))
     obtain rfl := sj h
     obtain rfl := hres _ rfl
     exact ⟨rfl, _, σ33, a34, c35, fr_join ⟨rfl, rfl, rfl, trivial⟩, rfl, H.sel' [1, 3] rfl rfl⟩
   ·clear hj
    have h := h'
    clear h' H
    rintro e a w ⟨rfl, ρ, σ69, a70, c71, rfl, rfl, H⟩
    refine q_then (c_seq (rg (sm (Sl a70 o31 c71) rfl (sm (Sl Bd Bb Be) rfl (sm (I He) rfl ?_)))))
    obtain ⟨σ72, hw73, H, -⟩ := H.pub 1 rfl (Nat.zero_le _)
    rw [← hw73]; clear hw73
    revert h; refine br fun r74 hx75 h => ?_
    have hc76 := c_spec_nearest (Aw := a70) (Ax := c71) (Bd := Bd) (Be := Be) hx75
    refine st_call (cx_call hc76 (ent_f hc76.fn rfl) hn0 (H.sel' [0, 1, 0, 1] rfl rfl : Hp S0 σ0 _ ([_, _] ++ _))) wn ?_
    rintro _ σ79 ⟨_, ⟨a77, c78, rfl, rfl⟩, H, -⟩
    replace H : Hp _ _ _ [_, _, _] := H
    refine sa (Sl a77 r74 c78) rfl (w_end (q_then (c_ret ?_)))
    obtain rfl := sj h
    exact fin_ret (v := (Sl a77 r74 c78)) (results_ok Tryz.results27 (res_tmp (v := (Sl a77 r74 c78)) rfl res_nil) rfl) ⟨a77, c78, rfl, rfl⟩ (H.sel' [0] rfl rfl)

theorem c_impl_keysOf {Av : List (Int × (List Int) × Int)} {Aw : Option Addr} {Ax : Nat} {r : (List Int)} (h : M.impl_keysOf Av = some r) :
    Cal2 Tryz.prog 85 [(Sl Aw Av Ax)] [Ch.ro 0 (Sl Aw Av Ax) Av] (fun n0 v L => ∃ (az1 : Option Addr), ∃ (cz2 : Nat), v = (Sl az1 r cz2) ∧ L = [Ch.own n0 n0 (Sl az1 r cz2) r] ∧ cz2 = r.length) := by
 refine cal2 (n := 23) Tryz.func85 rfl rfl rfl rfl ?_
 intro S0 σ0 n0 hn0 H
 unfold M.impl_keysOf at h
 refine c_seq (rg (sa (.slice none 0 0) rfl (w_end (q_then (c_seq (rg (sm (Sl Aw Av Ax) rfl (st (v := (I (Av.length : Int))) (rv_len Tryz.underlying26 rfl) ?_))))))))
 revert h; refine br fun xs1 hx2 h => ?_
 refine st_ex (ex_make (el := n0) (z0 := (0 : Int)) (zs := [(I 0)]) H hn0 Tryz.underlying27 ti3 rfl rfl rfl (by decide) hx2 rfl rfl) wn ?_
 rintro _ σ6 ⟨b3, c4, rfl, ht5, H, -⟩
 replace ht5 := ht5.trans (gmake_len hx2).symm
 refine sa (Sl (some ⟨b3, 0, none⟩) xs1 c4) rfl (w_end (q_then (c_seq (c_seq (rg (sm (Sl Aw Av Ax) rfl (st (v := (I (Av.length : Int))) (rv_len Tryz.underlying26 rfl) (sm (I 0) rfl (w_end (q_then ?_))))))))))
 obtain ⟨o7, hj, h'⟩ := bind_some h
 clear h
 refine c_cut (fun e a w => e = .normal ∧ ∃ (ρ : Nat → Value) (σ : St), a = fr 23 (updL ρ [(3, (Sl (some ⟨b3, 0, none⟩) o7 c4))]) ∧ w = σ.w ∧ Hp S0 σ0 σ [Ch.own n0 n0 (Sl (some ⟨b3, 0, none⟩) o7 c4) o7] ∧ c4 = o7.length ∧ o7.length = xs1.length) ?_ ?_
 ·clear h'
  rename _ = some o7 => h
  refine c_blk (wp_loopM _ h (fun s8 a w => ∃ (ρ : Nat → Value) (σ : St), a = fr 23 (updL ρ [(3, (Sl (some ⟨b3, 0, none⟩) s8.1 c4)), (9, (Sl Aw Av Ax)), (10, (I (Av.length : Int))), (11, (I s8.2))]) ∧ w = σ.w ∧ Hp S0 σ0 σ [Ch.own n0 n0 (Sl (some ⟨b3, 0, none⟩) s8.1 c4) s8.1, Ch.ro 0 (Sl Aw Av Ax) Av] ∧ c4 = s8.1.length ∧ s8.1.length = xs1.length) ⟨_, σ6, fr_join ⟨rfl, rfl, rfl, rfl, trivial⟩, rfl, H.sel' [0, 1] rfl rfl, ht5, rfl⟩ ?_)
  clear h H
  rintro s8 a w o ⟨ρ, σ9, rfl, rfl, H, ht10, hn11⟩ h hres
  refine c_seq (rg (st (v := (B (decide (s8.2 < (Av.length : Int))))) (rv_lss (a := s8.2) (b := (Av.length : Int)) rfl rfl) (w_end (q_then (c_seq ?_)))))
  refine cd_cond (decide (s8.2 < (Av.length : Int))) rfl (fun hb12 => ?_) (fun hb12 => ?_)
  ·replace h := bif_t hb12 h
   refine c_skip (q_then (c_seq (c_blk (c_seq (rg (sm (I s8.2) rfl ?_))))))
   revert h; refine br fun x13 hx14 h => ?_
   obtain ⟨b16, o17, hi15, -⟩ := (H.ro 1 rfl).ix hx14
   refine st (v := (pt b16 o17)) (rv_ix Tryz.underlying26 ti34 rfl rfl hi15) ?_
   obtain ⟨_, ⟨_, _, rfl, rfl, ⟨_, _, rfl, ⟨_, rfl, hR22⟩, rfl⟩⟩, hl18, hc19⟩ := ((H.ro 1 rfl).at hx14 hi15).cells
   obtain ⟨a20, c21, rfl⟩ := hR22.isSl
   replace H := H.add (d := Ch.ro 0 (Sl a20 x13.2.1 c21) x13.2.1) hR22 (fun _ h => h)
   clear hR22
   refine st (v := (.agg #[(I x13.1), (Sl a20 x13.2.1 c21), (I x13.2.2)])) (rv_load Tryz.underlying34 rfl ti34 rfl hl18 hc19) (st_ex (ex_alloc (cs := [(I 0), (.slice none 0 0), (I 0)]) H hn0 ti34 rfl) wn ?_)
   rintro _ σ24 ⟨b23, rfl, H, -⟩
   refine sa (I s8.2) rfl ?_
   refine st_exS (ex_store_box (k := 0) (cs := [(I 0), (.slice none 0 0), (I 0)]) (vs := [(I x13.1), (Sl a20 x13.2.1 c21), (I x13.2.2)]) (cs' := [(I x13.1), (Sl a20 x13.2.1 c21), (I x13.2.2)]) H (i := 0) rfl ti34 rfl rfl rfl rfl rfl (Nat.le_of_ble_eq_true rfl) (by simp [plain]) rfl) wn ?_
   rintro σ25 ⟨H, -⟩
   refine w_end (q_then (rg (sm (Sl (some ⟨b3, 0, none⟩) s8.1 c4) rfl (sm (I s8.2) rfl (st (v := (pt b23 0)) (rv_fieldAddr (off := 0) (ft := 3) Tryz.underlying34 rfl ti3 rfl rfl) ?_)))))
   have hc26 := H.cell (u := (I x13.1)) (o' := 0) 0 0 rfl rfl rfl
   refine st (v := (I x13.1)) (rv_load1 Tryz.underlying3 rfl rfl hc26) ?_
   revert h; refine br fun x27 hx28 h => ?_
   obtain ⟨b30, o31, hi29, -⟩ := (H.own 2 rfl).ix hx28
   refine st (v := (pt b30 o31)) (rv_ix Tryz.underlying27 ti3 rfl rfl hi29) ?_
   refine st_exS (ex_store_own (e' := x13.1) (vs := [(I x13.1)]) (k := 0) H (i := 2) rfl ti3 hx28 hi29 rfl rfl rfl rfl rfl (Nat.le_of_ble_eq_true rfl) (by simp [plain]) (by rintro _ rfl; exact rfl)) wn ?_
   rintro σ32 ⟨H, -⟩
   have hsl : (Sl (some ⟨b3, 0, none⟩) s8.1 c4) = (Sl (some ⟨b3, 0, none⟩) (s8.1.set s8.2.toNat x13.1) c4) := sl_len List.length_set.symm
   rw [hsl]; rw [hsl] at H; clear hsl
   refine w_end (q_blk (q_then (rg (st (v := (I (w64 (s8.2 + 1)))) (rv_add (a := s8.2) (b := 1) rfl rfl) (sm (I (w64 (s8.2 + 1))) rfl (w_end (q_then ?_)))))))
   obtain rfl := sj h
   exact ⟨_, rfl, _, σ32, fr_join ⟨rfl, rfl, rfl, rfl, trivial⟩, rfl, H.sel' [0, 3] rfl rfl, (ht10.trans List.length_set.symm), (List.length_set.trans hn11)⟩
  ·replace h := bif_f hb12 h
   refine c_exit (q_then_x (q_then_x (q_blk_hit ?_)))
   obtain rfl := sj h
   obtain rfl := hres _ rfl
   exact ⟨rfl, _, σ9, fr_join ⟨rfl, trivial⟩, rfl, H.sel' [0] rfl rfl, ht10, hn11⟩
 ·clear hj
  have h := h'
  clear h' H
  rintro e a w ⟨rfl, ρ, σ33, rfl, rfl, H, ht34, hn35⟩
  refine q_then (c_seq (rg (sm (Sl (some ⟨b3, 0, none⟩) o7 c4) rfl (sa (Sl (some ⟨b3, 0, none⟩) o7 c4) rfl (w_end (q_then (c_ret ?_)))))))
  obtain rfl := sj h
  exact fin_ret (v := (Sl (some ⟨b3, 0, none⟩) o7 c4)) (results_ok Tryz.results85 (res_tmp (v := (Sl (some ⟨b3, 0, none⟩) o7 c4)) rfl res_nil) rfl) ⟨(some ⟨b3, 0, none⟩), c4, rfl, rfl, ht34⟩ (H.sel' [0] rfl rfl)

theorem c_impl_BucketOf {Fs : List (List Int)} {Fk : List (Int × (List Int) × Int)} {Bb : List Int} {Hd : Int} {Fu : Option Addr} {Fv : Nat} {Fl : Option Addr} {Fm : Nat} {Bd : Option Addr} {Be : Nat} {r : (List Int)} (h : M.impl_BucketOf Fs Fk Bb Hd = some r) :
    Cal2 Tryz.prog 28 [(Sl Fu Fs Fv), (Sl Fl Fk Fm), (Sl Bd Bb Be), (I Hd)] [Ch.ro 0 (Sl Fu Fs Fv) Fs, Ch.ro 0 (Sl Fl Fk Fm) Fk, Ch.ro 0 (Sl Bd Bb Be) Bb] (fun n0 v L => ∃ (az1 : Option Addr), ∃ (cz2 : Nat), v = (Sl az1 r cz2) ∧ L = [Ch.own n0 n0 (Sl az1 r cz2) r] ∧ cz2 = r.length) := by
 refine cal2 (n := 21) Tryz.func28 rfl rfl rfl rfl ?_
 intro S0 σ0 n0 hn0 H
 unfold M.impl_BucketOf at h
 refine c_seq (rg (sa (.slice none 0 0) rfl (w_end (q_then (c_seq (c_seq (rg (sm (Sl Fu Fs Fv) rfl (sm (Sl Fl Fk Fm) rfl (sm (Sl Bd Bb Be) rfl (sm (I Hd) rfl ?_)))))))))))
 revert h; refine br fun r1 hx2 h => ?_
 have hc3 := c_impl_validBucket (Fu := Fu) (Fv := Fv) (Fl := Fl) (Fm := Fm) (Bd := Bd) (Be := Be) hx2
 refine st_call (cx_call hc3 (ent_f hc3.fn rfl) hn0 (H.sel' [0, 1, 2, 0, 1, 2] rfl rfl : Hp S0 σ0 _ ([_, _, _] ++ _))) wn ?_
 rintro _ σ4 ⟨_, ⟨rfl, rfl⟩, H, -⟩
 replace H : Hp _ _ _ [_, _, _] := H
 refine st (v := (B (!r1))) (rv_not rfl) (w_end (q_then ?_))
 refine cd_cond (!r1) rfl (fun hb5 => ?_) (fun hb5 => ?_)
 ·replace h := bif_t hb5 h
  refine c_seq (rg (sa (.slice none 0 0) rfl (w_end (q_then (c_ret (q_then_r ?_))))))
  replace H := H.nilOwn Int n0 n0
  obtain rfl := sj h
  exact fin_ret (v := (.slice none 0 0)) (results_ok Tryz.results28 (res_tmp (v := (.slice none 0 0)) rfl res_nil) rfl) ⟨none, 0, rfl, rfl, rfl⟩ (H.sel' [0] rfl rfl)
 ·replace h := bif_f hb5 h
  refine c_skip (q_then (c_seq (rg (sm (Sl Fu Fs Fv) rfl (sm (Sl Fl Fk Fm) rfl (sm (Sl Bd Bb Be) rfl (sm (I Hd) rfl ?_)))))))
  revert h; refine br fun r6 hx7 h => ?_
  have hc8 := c_impl_bucketItems (Fu := Fu) (Fv := Fv) (Fl := Fl) (Fm := Fm) (Bd := Bd) (Be := Be) hx7
  refine st_call (cx_call hc8 (ent_f hc8.fn rfl) hn0 (H.sel' [0, 1, 2, 0, 1, 2] rfl rfl : Hp S0 σ0 _ ([_, _, _] ++ _))) wn ?_
  rintro _ σ11 ⟨_, ⟨a9, c10, rfl, rfl⟩, H, -⟩
  replace H : Hp _ _ _ [_, _, _, _] := H
  obtain ⟨σ12, hw13, H, -⟩ := H.pub 0 rfl (Nat.zero_le _)
  rw [← hw13]; clear hw13
  revert h; refine br fun r14 hx15 h => ?_
  have hc16 := c_impl_keysOf (Aw := a9) (Ax := c10) hx15
  refine st_call (cx_call hc16 (ent_f hc16.fn rfl) hn0 (H.sel' [0, 0, 1, 2, 3] rfl rfl : Hp S0 σ0 _ ([_] ++ _))) wn ?_
  rintro _ σ20 ⟨_, ⟨a17, c18, rfl, rfl, ht19⟩, H, -⟩
  replace H : Hp _ _ _ [_, _, _, _, _] := H
  refine sa (Sl a17 r14 c18) rfl (w_end (q_then (c_ret ?_)))
  obtain rfl := sj h
  exact fin_ret (v := (Sl a17 r14 c18)) (results_ok Tryz.results28 (res_tmp (v := (Sl a17 r14 c18)) rfl res_nil) rfl) ⟨a17, c18, rfl, rfl, ht19⟩ (H.sel' [0] rfl rfl)

theorem c_laws_isIn {Av : List Int} {Fh : Int} {Aw : Option Addr} {Ax : Nat} {r : Bool} (h : M.laws_isIn Av Fh = some r) :
    Cal2 Tryz.prog 29 [(Sl Aw Av Ax), (I Fh)] [Ch.ro 0 (Sl Aw Av Ax) Av] (fun n0 v L => v = (B r) ∧ L = []) := by
 refine cal2 (n := 18) Tryz.func29 rfl rfl rfl rfl ?_
 intro S0 σ0 n0 hn0 H
 unfold M.laws_isIn at h
 refine c_seq (rg (sa (B false) rfl (w_end (q_then (c_seq (c_seq (rg (sa (I 0) rfl (w_end (q_then ?_))))))))))
 obtain ⟨o1, hj, h'⟩ := bind_some h
 clear h
 refine c_cut (fun e a w => (∃ t, o1 = (.inl t) ∧ e = .normal ∧ ∃ (ρ : Nat → Value) (σ : St), a = fr 18 (updL ρ []) ∧ w = σ.w ∧ Hp S0 σ0 σ []) ∨ (∃ t, o1 = (.inr t) ∧ e = .ret ∧ ∃ (ρ : Nat → Value) (σ : St), a = fr 18 (updL ρ [(4, (B t))]) ∧ w = σ.w ∧ Hp S0 σ0 σ [])) ?_ ?_
 ·clear h'
  rename _ = some o1 => h
  refine c_blk (wp_loopM _ h (fun s2 a w => ∃ (ρ : Nat → Value) (σ : St), a = fr 18 (updL ρ [(0, (Sl Aw Av Ax)), (1, (I Fh)), (5, (I s2))]) ∧ w = σ.w ∧ Hp S0 σ0 σ [Ch.ro 0 (Sl Aw Av Ax) Av]) ⟨_, σ0, fr_join ⟨rfl, rfl, rfl, trivial⟩, rfl, H.sel' [0] rfl rfl⟩ ?_)
  clear h H
  rintro s2 a w o ⟨ρ, σ3, rfl, rfl, H⟩ h hres
  refine c_seq (c_seq (rg (sm (I s2) rfl (sm (Sl Aw Av Ax) rfl (st (v := (I (Av.length : Int))) (rv_len Tryz.underlying27 rfl) (st (v := (B (decide (s2 < (Av.length : Int))))) (rv_lss (a := s2) (b := (Av.length : Int)) rfl rfl) (w_end (q_then ?_))))))))
  refine cd_cond (decide (s2 < (Av.length : Int))) rfl (fun hb4 => ?_) (fun hb4 => ?_)
  ·replace h := bif_t hb4 h
   refine c_skip (q_then (c_seq (c_blk (c_seq (rg (sm (Sl Aw Av Ax) rfl (sm (I s2) rfl ?_)))))))
   revert h; refine br fun x5 hx6 h => ?_
   obtain ⟨b8, o9, hi7, -⟩ := (H.ro 0 rfl).ix hx6
   refine st (v := (pt b8 o9)) (rv_ix Tryz.underlying27 ti3 rfl rfl hi7) ?_
   have hc10 := ((H.ro 0 rfl).at hx6 hi7).int
   refine st (v := (I x5)) (rv_load1 Tryz.underlying3 rfl rfl hc10) (sm (I Fh) rfl (st (v := (B (x5 == Fh))) (rv_eql (a := x5) (b := Fh) rfl rfl) (w_end (q_then ?_))))
   refine cd_cond (x5 == Fh) rfl (fun hb11 => ?_) (fun hb11 => ?_)
   ·replace h := bif_t hb11 h
    refine c_seq (rg (sa (B true) rfl (w_end (q_then (c_ret (q_blk_r (q_then_r (q_then_r (q_blk_r ?_)))))))))
    obtain rfl := sj h
    obtain rfl := hres _ rfl
    exact .inr (⟨_, rfl, rfl, _, σ3, fr_join ⟨rfl, trivial⟩, rfl, H.sel' [] rfl rfl⟩)
   ·replace h := bif_f hb11 h
    refine c_skip (q_blk (q_then (rg (sm (I s2) rfl (st (v := (I (w64 (s2 + 1)))) (rv_add (a := s2) (b := 1) rfl rfl) (sa (I (w64 (s2 + 1))) rfl (w_end (q_then ?_))))))))
    obtain rfl := sj h
    exact ⟨_, rfl, _, σ3, fr_join ⟨rfl, rfl, rfl, trivial⟩, rfl, H.sel' [0] rfl rfl⟩
  ·replace h := bif_f hb4 h
   refine c_exit (q_then_x (q_then_x (q_blk_hit ?_)))
   obtain rfl := sj h
   obtain rfl := hres _ rfl
   exact .inl ⟨_, rfl, rfl, _, σ3, fr_join trivial, rfl, H.sel' [] rfl rfl⟩
 ·clear hj
  have h := h'
  clear h' H
  rintro e a w (⟨t12, rfl, rfl, ρ, σ13, rfl, rfl, H⟩ | ⟨t14, rfl, rfl, ρ, σ15, rfl, rfl, H⟩)
  ·replace h := selim_l h
   refine q_then (c_seq (rg (sa (B false) rfl (w_end (q_then (c_ret ?_))))))
   obtain rfl := sj h
   exact fin_ret (v := (B false)) (results_ok Tryz.results29 (res_tmp (v := (B false)) rfl res_nil) rfl) ⟨rfl, rfl⟩ (H.sel' [] rfl rfl)
  ·replace h := selim_r h
   refine q_then_r ?_
   obtain rfl := sj h
   exact fin_ret (v := (B t14)) (results_ok Tryz.results29 (res_tmp (v := (B t14)) rfl res_nil) rfl) ⟨rfl, rfl⟩ (H.sel' [] rfl rfl)

theorem c_laws_FnHashNearest {Fe : List UInt8} {Ff : Option Addr} {Fg : Nat} {r : Bool} (h : M.laws_FnHashNearest Fe = some r) :
    Cal2 Tryz.prog 5 [(Sl Ff Fe Fg)] [Ch.ro 0 (Sl Ff Fe Fg) Fe] (fun n0 v L => v = (B r) ∧ L = []) := by
 refine cal2 (n := 97) Tryz.func5 rfl rfl rfl rfl ?_
 intro S0 σ0 n0 hn0 H
 unfold M.laws_FnHashNearest at h
 refine c_seq (rg (sa (B false) rfl (w_end (q_then (c_seq (c_seq (rg (sm (Sl Ff Fe Fg) rfl (st (v := (I (Fe.length : Int))) (rv_len Tryz.underlying22 rfl) (st (v := (B (decide (1048576 < (Fe.length : Int))))) (rv_gtr (a := (Fe.length : Int)) (b := 1048576) rfl rfl) (w_end ?_)))))))))))
 refine q_then ?_
 refine cd_cond (decide (1048576 < (Fe.length : Int))) rfl (fun hb1 => ?_) (fun hb1 => ?_)
 ·replace h := bif_t hb1 h
  refine c_seq (rg (sa (B true) rfl (w_end (q_then (c_ret (q_then_r ?_))))))
  obtain rfl := sj h
  exact fin_ret (v := (B true)) (results_ok Tryz.results5 (res_tmp (v := (B true)) rfl res_nil) rfl) ⟨rfl, rfl⟩ (H.sel' [] rfl rfl)
 ·replace h := bif_f hb1 h
  refine c_skip (q_then (c_seq (rg (sm (Sl Ff Fe Fg) rfl ?_))))
  revert h; refine br fun r2 hx3 h => ?_
  have hc4 := c_spec_DrawHashNearest (Ff := Ff) (Fg := Fg) hx3
  refine st_call (cx_call hc4 (ent_f hc4.fn rfl) hn0 (H.sel' [0, 0] rfl rfl : Hp S0 σ0 _ ([_] ++ _))) wn ?_
  rintro _ σ11 ⟨_, ⟨a5, c6, a7, c8, a9, c10, rfl, rfl⟩, H, -⟩
  replace H : Hp _ _ _ [_, _, _, _] := H
  refine sm (.tuple #[(Sl a5 r2.1 c6), (Sl a7 r2.2.1 c8), (Sl a9 r2.2.2.1 c10), (I r2.2.2.2.1), (I r2.2.2.2.2)]) rfl (st (v := (Sl a5 r2.1 c6)) (rv_extract rfl rfl) (st (v := (Sl a7 r2.2.1 c8)) (rv_extract rfl rfl) (st (v := (Sl a9 r2.2.2.1 c10)) (rv_extract rfl rfl) (st (v := (I r2.2.2.2.1)) (rv_extract rfl rfl) (st (v := (I r2.2.2.2.2)) (rv_extract rfl rfl) (sa (Sl a5 r2.1 c6) rfl (sa (Sl a7 r2.2.1 c8) rfl (sa (Sl a9 r2.2.2.1 c10) rfl (sa (I r2.2.2.2.1) rfl (sa (I r2.2.2.2.2) rfl (w_end ?_)))))))))))
  refine q_then (c_seq (rg (sm (Sl a5 r2.1 c6) rfl (sm (Sl a7 r2.2.1 c8) rfl (sm (Sl a9 r2.2.2.1 c10) rfl (sm (I r2.2.2.2.1) rfl (sm (I r2.2.2.2.2) rfl ?_)))))))
  revert h; refine br fun r12 hx13 h => ?_
  have hc14 := c_impl_HashNearest (Fu := a5) (Fv := c6) (Fl := a7) (Fm := c8) (Bd := a9) (Be := c10) hx13
  have hle := Nat.le_trans hn0 H.size
  refine st_call (cx_lend (Loan.lend (Loan.lend (Loan.lend Loan.nil))) hc14 (ent_f hc14.fn rfl) (show Hp S0 σ0 _ ([Ch.own n0 n0 (Sl a5 r2.1 c6) r2.1, Ch.own n0 n0 (Sl a7 r2.2.1 c8) r2.2.1, Ch.own n0 n0 (Sl a9 r2.2.2.1 c10) r2.2.2.1] ++ ([] ++ [Ch.ro 0 (Sl Ff Fe Fg) Fe])) from (H.sel' [0, 1, 2, 3] rfl rfl)) (by rintro _ _ _ ⟨_, _, rfl, rfl⟩; exact ⟨Ab.ownSc, trivial⟩)) wn ?_
  rintro _ σ17 ⟨_, ⟨a15, c16, rfl, rfl⟩, H, -, -⟩
  replace H : Hp _ _ _ [_, _, _, _, _] := H
  replace H := H.ownLow 0 0 n0 rfl (Nat.le_refl _) hle
  clear hle
  replace H : Hp _ _ _ [_, _, _, _, _] := H
  refine sa (Sl a15 r12 c16) rfl (w_end (q_then (c_seq (c_seq ?_))))
  obtain ⟨o18, hj, h'⟩ := bind_some h
  clear h
  refine c_cut (fun e a w => e = .normal ∧ ∃ (ρ : Nat → Value) (σ : St), a = fr 97 (updL ρ [(3, (Sl a5 r2.1 c6)), (4, (Sl a7 r2.2.1 c8)), (5, (Sl a9 r2.2.2.1 c10)), (6, (I r2.2.2.2.1)), (7, (I r2.2.2.2.2)), (8, (Sl a15 r12 c16)), (41, (B o18))]) ∧ w = σ.w ∧ Hp S0 σ0 σ [Ch.own n0 n0 (Sl a5 r2.1 c6) r2.1, Ch.own n0 n0 (Sl a7 r2.2.1 c8) r2.2.1, Ch.own n0 n0 (Sl a9 r2.2.2.1 c10) r2.2.2.1, Ch.own 0 n0 (Sl a15 r12 c16) r12]) ?_ ?_
  ·clear h'
   rename _ = some o18 => h
   refine rg (sm (Sl a15 r12 c16) rfl (sm (Sl a5 r2.1 c6) rfl (sm (Sl a7 r2.2.1 c8) rfl (sm (Sl a9 r2.2.2.1 c10) rfl (sm (I r2.2.2.2.1) rfl (sm (I r2.2.2.2.2) rfl ?_))))))
   revert h; refine br fun r19 hx20 h => ?_
   have hc21 := c_spec_HashNearest (Fu := a5) (Fv := c6) (Fl := a7) (Fm := c8) (Bd := a9) (Be := c10) hx20
   have hle := Nat.le_trans hn0 H.size
   refine st_call (cx_lend (Loan.lend (Loan.lend (Loan.lend Loan.nil))) hc21 (ent_f hc21.fn rfl) (show Hp S0 σ0 _ ([Ch.own n0 n0 (Sl a5 r2.1 c6) r2.1, Ch.own n0 n0 (Sl a7 r2.2.1 c8) r2.2.1, Ch.own n0 n0 (Sl a9 r2.2.2.1 c10) r2.2.2.1] ++ ([] ++ [Ch.own 0 n0 (Sl a15 r12 c16) r12, Ch.ro 0 (Sl Ff Fe Fg) Fe])) from (H.sel' [1, 2, 3, 0, 4] rfl rfl)) (by rintro _ _ _ ⟨_, _, rfl, rfl⟩; exact ⟨Ab.ownSc, trivial⟩)) wn ?_
   rintro _ σ24 ⟨_, ⟨a22, c23, rfl, rfl⟩, H, -, -⟩
   replace H : Hp _ _ _ [_, _, _, _, _, _] := H
   replace H := H.ownLow 0 n0 n0 rfl hle hle
   clear hle
   replace H : Hp _ _ _ [_, _, _, _, _, _] := H
   obtain ⟨σ25, hw26, H, -⟩ := H.pub 0 rfl (Nat.le_refl _)
   rw [← hw26]; clear hw26
   replace H := H.roLow 0 0 rfl (Nat.zero_le _)
   revert h; refine br fun r27 hx28 h => ?_
   have hc29 := c_laws_equalHits (Ad := a15) (Ae := c16) (Af := a22) (Ag := c23) hx28
   have hle := Nat.le_trans hn0 H.size
   refine st_call (cx_lend (Loan.lend (Loan.same Loan.nil)) hc29 (ent_f hc29.fn rfl) (show Hp S0 σ0 _ ([Ch.own 0 n0 (Sl a15 r12 c16) r12] ++ ([Ch.ro 0 (Sl a22 r19 c23) r19] ++ [Ch.ro 0 (Sl a22 r19 c23) r19, Ch.ro n0 (Sl a22 r19 c23) r19, Ch.own n0 n0 (Sl a5 r2.1 c6) r2.1, Ch.own n0 n0 (Sl a7 r2.2.1 c8) r2.2.1, Ch.own n0 n0 (Sl a9 r2.2.2.1 c10) r2.2.2.1, Ch.ro 0 (Sl Ff Fe Fg) Fe])) from (H.sel' [5, 0, 0, 1, 2, 3, 4, 6] rfl rfl)) (by rintro _ _ _ ⟨rfl, rfl⟩; exact trivial)) wn ?_
   rintro _ σ30 ⟨_, ⟨rfl, rfl⟩, H, -, -⟩
   replace H : Hp _ _ _ [_, _, _, _, _, _, _] := H
   clear hle
   replace H : Hp _ _ _ [_, _, _, _, _, _, _] := H
   refine st (v := (B (!r27))) (rv_not rfl) (sm (B (!r27)) rfl ?_)
   rcases Bool.eq_false_or_eq_true (!r27) with hb31 | hb31
   ·replace h := bif_t hb31 h
    refine st_skip (congrArg some hb31) (st_skip (congrArg some hb31) (st_skip (congrArg some hb31) (st (v := (B true)) (rv_pick_t (congrArg B hb31) rfl) (w_end ?_))))
    obtain rfl := sj h
    exact ⟨rfl, _, σ30, fr_join ⟨rfl, rfl, rfl, rfl, rfl, rfl, rfl, trivial⟩, rfl, H.sel' [3, 4, 5, 0] rfl rfl⟩
   ·replace h := bif_f hb31 h
    refine st_g (v := (Sl a15 r12 c16)) (congrArg some hb31) (rv_move rfl) (st_g (v := (I (r12.length : Int))) (congrArg some hb31) (rv_len Tryz.underlying30 rfl) (st_g (v := (B ((r12.length : Int) == 0))) (congrArg some hb31) (rv_eql (a := (r12.length : Int)) (b := 0) rfl rfl) (st (v := (B ((r12.length : Int) == 0))) (rv_pick_f (congrArg B hb31) rfl) (w_end ?_))))
    obtain rfl := sj h
    exact ⟨rfl, _, σ30, fr_join ⟨rfl, rfl, rfl, rfl, rfl, rfl, rfl, trivial⟩, rfl, H.sel' [3, 4, 5, 0] rfl rfl⟩
  ·clear hj
   have h := h'
   clear h' H
   rintro e a w ⟨rfl, ρ, σ32, rfl, rfl, H⟩
   refine q_then ?_
   refine cd_cond o18 rfl (fun hb33 => ?_) (fun hb33 => ?_)
   ·replace h := bif_t hb33 h
    refine c_seq (rg (sm (Sl a15 r12 c16) rfl (sm (Sl a5 r2.1 c6) rfl (sm (Sl a7 r2.2.1 c8) rfl (sm (Sl a9 r2.2.2.1 c10) rfl (sm (I r2.2.2.2.1) rfl (sm (I r2.2.2.2.2) rfl ?_)))))))
    obtain ⟨σ34, hw35, H, -⟩ := H.pub 0 rfl (Nat.le_refl _)
    rw [← hw35]; clear hw35
    obtain ⟨σ36, hw37, H, -⟩ := H.pub 1 rfl (Nat.le_refl _)
    rw [← hw37]; clear hw37
    obtain ⟨σ38, hw39, H, -⟩ := H.pub 2 rfl (Nat.le_refl _)
    rw [← hw39]; clear hw39
    replace H := H.roLow 2 0 rfl (Nat.zero_le _)
    replace H := H.roLow 2 0 rfl (Nat.zero_le _)
    replace H := H.roLow 2 0 rfl (Nat.zero_le _)
    revert h; refine br fun r40 hx41 h => ?_
    have hc42 := c_spec_HashNearest (Fu := a5) (Fv := c6) (Fl := a7) (Fm := c8) (Bd := a9) (Be := c10) hx41
    refine st_call (cx_call hc42 (ent_f hc42.fn rfl) hn0 (H.sel' [2, 1, 0, 0, 1, 2, 3, 4, 5, 6] rfl rfl : Hp S0 σ0 _ ([_, _, _] ++ _))) wn ?_
    rintro _ σ45 ⟨_, ⟨a43, c44, rfl, rfl⟩, H, -⟩
    replace H : Hp _ _ _ [_, _, _, _, _, _, _, _] := H
    replace H : Hp S0 σ0 σ45 [Ch.own n0 n0 (Sl a43 r40 c44) r40, Ch.own 0 n0 (Sl a15 r12 c16) r12] := H.sel' [0, 7] rfl rfl
    replace H := H.ownLow 1 0 0 rfl (Nat.le_refl _) (Nat.zero_le _)
    obtain ⟨σ46, hw47, H, -⟩ := H.pub 0 rfl (Nat.le_refl _)
    rw [← hw47]; clear hw47
    obtain ⟨σ48, hw49, H, -⟩ := H.pub 1 rfl (Nat.le_refl _)
    rw [← hw49]; clear hw49
    replace H := H.roLow 0 0 rfl (Nat.zero_le _)
    revert h; refine br fun r50 hx51 h => ?_
    have hc52 := c_laws_equalHits (Ad := a15) (Ae := c16) (Af := a43) (Ag := c44) hx51
    refine st_call (cx_call hc52 (ent_f hc52.fn rfl) hn0 (H.sel' [2, 0, 0, 1, 2] rfl rfl : Hp S0 σ0 _ ([_, _] ++ _))) wn ?_
    rintro _ σ53 ⟨_, ⟨rfl, rfl⟩, H, -⟩
    replace H : Hp _ _ _ [_, _, _] := H
    refine sa (B r50) rfl (w_end (q_then (c_ret (q_then_r ?_))))
    obtain rfl := sj h
    exact fin_ret (v := (B r50)) (results_ok Tryz.results5 (res_tmp (v := (B r50)) rfl res_nil) rfl) ⟨rfl, rfl⟩ (H.sel' [] rfl rfl)
   ·replace h := bif_f hb33 h
    refine c_skip (q_then (c_seq (rg (sm (Sl a5 r2.1 c6) rfl (sm (Sl a7 r2.2.1 c8) rfl (sm (Sl a9 r2.2.2.1 c10) rfl (sm (I r2.2.2.2.1) rfl ?_)))))))
    revert h; refine br fun r54 hx55 h => ?_
    have hc56 := c_impl_BucketOf (Fu := a5) (Fv := c6) (Fl := a7) (Fm := c8) (Bd := a9) (Be := c10) hx55
    have hle := Nat.le_trans hn0 H.size
    refine st_call (cx_lend (Loan.lend (Loan.lend (Loan.lend Loan.nil))) hc56 (ent_f hc56.fn rfl) (show Hp S0 σ0 _ ([Ch.own n0 n0 (Sl a5 r2.1 c6) r2.1, Ch.own n0 n0 (Sl a7 r2.2.1 c8) r2.2.1, Ch.own n0 n0 (Sl a9 r2.2.2.1 c10) r2.2.2.1] ++ ([] ++ [Ch.own 0 n0 (Sl a15 r12 c16) r12])) from (H.sel' [0, 1, 2, 3] rfl rfl)) (by rintro _ _ _ ⟨_, _, rfl, rfl, _⟩; exact ⟨Ab.ownSc, trivial⟩)) wn ?_
    rintro _ σ60 ⟨_, ⟨a57, c58, rfl, rfl, ht59⟩, H, -, -⟩
    replace H : Hp _ _ _ [_, _, _, _, _] := H
    replace H := H.ownLow 0 n0 n0 rfl hle hle
    clear hle
    replace H : Hp _ _ _ [_, _, _, _, _] := H
    refine sa (Sl a57 r54 c58) rfl (w_end (q_then (c_seq (c_seq (rg (sa (I 0) rfl (w_end (q_then ?_))))))))
    obtain ⟨o61, hj, h'⟩ := bind_some h
    clear h
    refine c_cut (fun e a w => (∃ t, o61 = (.inl t) ∧ e = .normal ∧ ∃ (ρ : Nat → Value) (σ : St), a = fr 97 (updL ρ [(3, (Sl a5 r2.1 c6)), (4, (Sl a7 r2.2.1 c8)), (5, (Sl a9 r2.2.2.1 c10)), (7, (I r2.2.2.2.2))]) ∧ w = σ.w ∧ Hp S0 σ0 σ [Ch.own n0 n0 (Sl a5 r2.1 c6) r2.1, Ch.ro n0 (Sl a7 r2.2.1 c8) r2.2.1, Ch.ro n0 (Sl a9 r2.2.2.1 c10) r2.2.2.1]) ∨ (∃ t, o61 = (.inr t) ∧ e = .ret ∧ ∃ (ρ : Nat → Value) (σ : St), a = fr 97 (updL ρ [(2, (B t))]) ∧ w = σ.w ∧ Hp S0 σ0 σ [])) ?_ ?_
    ·clear h'
     rename _ = some o61 => h
     refine c_blk ?_
     obtain ⟨σ63, hw64, H, -⟩ := H.pub 2 rfl (Nat.le_refl _)
     rw [← hw64]; clear hw64
     obtain ⟨σ65, hw66, H, -⟩ := H.pub 3 rfl (Nat.le_refl _)
     rw [← hw66]; clear hw66
     obtain ⟨σ67, hw68, H, -⟩ := H.pub 2 rfl (Nat.le_refl _)
     rw [← hw68]; clear hw68
     refine wp_loopM _ h (fun s62 a w => ∃ (ρ : Nat → Value) (σ : St), a = fr 97 (updL ρ [(3, (Sl a5 r2.1 c6)), (4, (Sl a7 r2.2.1 c8)), (5, (Sl a9 r2.2.2.1 c10)), (7, (I r2.2.2.2.2)), (8, (Sl a15 r12 c16)), (9, (Sl a57 r54 c58)), (10, (I s62))]) ∧ w = σ.w ∧ Hp S0 σ0 σ [Ch.own n0 n0 (Sl a5 r2.1 c6) r2.1, Ch.ro n0 (Sl a7 r2.2.1 c8) r2.2.1, Ch.ro n0 (Sl a9 r2.2.2.1 c10) r2.2.2.1, Ch.own 0 n0 (Sl a15 r12 c16) r12, Ch.ro n0 (Sl a57 r54 c58) r54]) ⟨_, σ67, fr_join ⟨rfl, rfl, rfl, rfl, rfl, rfl, rfl, trivial⟩, rfl, H.sel' [3, 2, 1, 4, 0] rfl rfl⟩ ?_
     clear h H
     rintro s62 a w o ⟨ρ, σ69, rfl, rfl, H⟩ h hres
     refine c_seq (c_seq (rg (sm (I s62) rfl (sm (Sl a15 r12 c16) rfl (st (v := (I (r12.length : Int))) (rv_len Tryz.underlying30 rfl) (st (v := (B (decide (s62 < (r12.length : Int))))) (rv_lss (a := s62) (b := (r12.length : Int)) rfl rfl) (w_end (q_then ?_))))))))
     refine cd_cond (decide (s62 < (r12.length : Int))) rfl (fun hb70 => ?_) (fun hb70 => ?_)
     ·replace h := bif_t hb70 h
      refine c_skip (q_then (c_seq (c_blk (c_seq ?_))))
      obtain ⟨o71, hj, h'⟩ := bind_some h
      clear h
      refine c_cut (fun e a w => e = .normal ∧ ∃ (ρ : Nat → Value) (σ : St), a = fr 97 (updL ρ [(3, (Sl a5 r2.1 c6)), (4, (Sl a7 r2.2.1 c8)), (5, (Sl a9 r2.2.2.1 c10)), (7, (I r2.2.2.2.2)), (8, (Sl a15 r12 c16)), (9, (Sl a57 r54 c58)), (10, (I s62)), (86, (B o71))]) ∧ w = σ.w ∧ Hp S0 σ0 σ [Ch.own n0 n0 (Sl a5 r2.1 c6) r2.1, Ch.ro n0 (Sl a7 r2.2.1 c8) r2.2.1, Ch.ro n0 (Sl a9 r2.2.2.1 c10) r2.2.2.1, Ch.own 0 n0 (Sl a15 r12 c16) r12, Ch.ro n0 (Sl a57 r54 c58) r54]) ?_ ?_
      ·clear h'
       rename _ = some o71 => h
       revert h; refine br fun x72 hx73 h => ?_
       obtain ⟨b75, o76, hi74, -⟩ := (H.own 3 rfl).ix hx73
       have hc77 := ((H.own 3 rfl).at hx73 hi74).fst.int
       replace H := H.roLow 4 0 rfl (Nat.zero_le _)
       revert h; refine br fun r78 hx79 h => ?_
       have hc80 := c_laws_isIn (Aw := a57) (Ax := c58) hx79
       rcases Bool.eq_false_or_eq_true (!r78) with hb81 | hb81
       ·replace h := bif_t hb81 h
        have Hs := H
        refine rg2 (σ := σ69) (Nm := Unit) 24 [6] [[false], [true]] [[(0, 0)], [(0, 0)], [(0, 0)], [(0, 0)], [(0, 0)], [(0, 0)], [(0, 1)], [(1, 1)], [(1, 1)], [(1, 1)], [(1, 1)], [(1, 1)], [(1, 1)], [(1, 1)], [(1, 1)], [(1, 1)], [(1, 1)], [(1, 1)], [(1, 1)], [(1, 1)], [(1, 1)], [(1, 1)], [(1, 1)], [(1, 1)]] 1 [fun _ => fun σm => Hp S0 σ0 σm [Ch.ro 0 (Sl a57 r54 c58) r54, Ch.own n0 n0 (Sl a5 r2.1 c6) r2.1, Ch.ro n0 (Sl a7 r2.2.1 c8) r2.2.1, Ch.ro n0 (Sl a9 r2.2.2.1 c10) r2.2.2.1, Ch.own 0 n0 (Sl a15 r12 c16) r12, Ch.ro n0 (Sl a57 r54 c58) r54] ∧ Md (cov []) σ69 σm, fun _ => fun σm => Hp S0 σ0 σm [Ch.ro 0 (Sl a57 r54 c58) r54, Ch.own n0 n0 (Sl a5 r2.1 c6) r2.1, Ch.ro n0 (Sl a7 r2.2.1 c8) r2.2.1, Ch.ro n0 (Sl a9 r2.2.2.1 c10) r2.2.2.1, Ch.own 0 n0 (Sl a15 r12 c16) r12, Ch.ro n0 (Sl a57 r54 c58) r54] ∧ Md (cov []) σ69 σm] [fun _ => (Sl a57 r54 c58), fun _ => (Sl a15 r12 c16), fun _ => (I s62), fun _ => (pt b75 o76), fun _ => (pt b75 (o76 + 0)), fun _ => (I x72.1), fun _ => (B r78), fun _ => (B (!r78)), fun _ => (B (!r78)), fun _ => undef, fun _ => undef, fun _ => undef, fun _ => undef, fun _ => undef, fun _ => undef, fun _ => undef, fun _ => undef, fun _ => undef, fun _ => undef, fun _ => undef, fun _ => undef, fun _ => undef, fun _ => undef, fun _ => undef] () (by kernel_rfl) (by kernel_rfl) ?_ ?_ ?_
        ·intro σm m0
         exact ⟨H.grow (m0.mono fun _ h => h.elim), m0⟩
        ·refine ac rfl (by
           intro k _nm ρ σm hJ hoff hdep
           have e9 := look_off (N := 97) (hoff 9 rfl) rfl
           exact dp_v (v := (Sl a57 r54 c58)) wn (rv_move e9) rfl hJ) ?_
         refine ac rfl (by
           intro k _nm ρ σm hJ hoff hdep
           have e8 := look_off (N := 97) (hoff 8 rfl) rfl
           exact dp_v (v := (Sl a15 r12 c16)) wn (rv_move e8) rfl hJ) ?_
         refine ac rfl (by
           intro k _nm ρ σm hJ hoff hdep
           have e10 := look_off (N := 97) (hoff 10 rfl) rfl
           exact dp_v (v := (I s62)) wn (rv_move e10) rfl hJ) ?_
         refine ac rfl (by
           intro k _nm ρ σm hJ hoff hdep
           have e62 := hdep 1 rfl rfl 62 rfl
           have e63 := hdep 2 rfl rfl 63 rfl
           exact dp_v (v := (pt b75 o76)) wn (rv_ix Tryz.underlying30 ti43 e62 e63 hi74) rfl hJ) ?_
         refine ac rfl (by
           intro k _nm ρ σm hJ hoff hdep
           have e64 := hdep 3 rfl rfl 64 rfl
           exact dp_v (v := (pt b75 (o76 + 0))) wn (rv_fieldAddr (off := 0) (ft := 3) Tryz.underlying43 rfl ti3 rfl e64) rfl hJ) ?_
         refine all_cons (by
           refine ⟨?_, ?_⟩
           ·intro _nm ρ σm hJ hoff hdep
            have e65 := hdep 4 rfl rfl 65 rfl
            obtain ⟨H, m⟩ := id hJ
            have hc77 := ((H.own 4 rfl).at hx73 hi74).fst.int
            exact dp_v (v := (I x72.1)) wn (rv_load1 Tryz.underlying3 rfl e65 hc77) rfl hJ
           trivial) ?_
         refine all_cons (by
           refine ⟨?_, ?_⟩
           ·intro _nm ρ σm hJ hoff hdep
            have e61 : look 97 ρ 61 = (Sl a57 r54 c58) := hdep 0 rfl rfl 61 rfl
            have e66 : look 97 ρ 66 = (I x72.1) := hdep 5 rfl rfl 66 rfl
            obtain ⟨H, m⟩ := id hJ
            refine dp_cx wn (cx_call hc80 (ent_f hc80.fn (by show [look 97 ρ 61, look 97 ρ 66] = _; rw [e61, e66])) hn0 (H.sel' [0, 0, 1, 2, 3, 4, 5] rfl rfl : Hp S0 σ0 _ ([_] ++ _))) ?_
            rintro _ σq ⟨_, ⟨rfl, rfl⟩, H2, m2⟩
            exact ⟨_, (), rfl, rfl, ⟨H2.sel' [0, 1, 2, 3, 4, 5] rfl rfl, m.comp0 (m2.mono (fun i h => by simp [cov, Ch.ro] at h))⟩, stab [0, 1, 2, 3, 4, 5] (by kernel_rfl) ⟨rfl, rfl, rfl, rfl, rfl, rfl, trivial⟩⟩
           trivial) ?_
         refine ac rfl (by
           intro k _nm ρ σm hJ hoff hdep
           have e67 := hdep 6 rfl rfl 67 rfl
           exact dp_v (v := (B (!r78))) wn (rv_not e67) rfl hJ) ?_
         refine ac rfl (by
           intro k _nm ρ σm hJ hoff hdep
           have e68 := hdep 7 rfl rfl 68 rfl
           exact dp_v (v := (B (!r78))) wn (rv_move e68) rfl hJ) ?_
         refine ac rfl (by
           intro k _nm ρ σm hJ hoff hdep
           have e69 := hdep 8 rfl rfl 69 rfl
           exact dp_skip (wanted_no rfl (yv_of rfl (e69.trans (congrArg B hb81)))) rfl hJ) ?_
         refine ac rfl (by
           intro k _nm ρ σm hJ hoff hdep
           have e69 := hdep 8 rfl rfl 69 rfl
           exact dp_skip (wanted_no rfl (yv_of rfl (e69.trans (congrArg B hb81)))) rfl hJ) ?_
         refine ac rfl (by
           intro k _nm ρ σm hJ hoff hdep
           have e69 := hdep 8 rfl rfl 69 rfl
           exact dp_skip (wanted_no rfl (yv_of rfl (e69.trans (congrArg B hb81)))) rfl hJ) ?_
         refine ac rfl (by
           intro k _nm ρ σm hJ hoff hdep
           have e69 := hdep 8 rfl rfl 69 rfl
           exact dp_skip (wanted_no rfl (yv_of rfl (e69.trans (congrArg B hb81)))) rfl hJ) ?_
         refine ac rfl (by
           intro k _nm ρ σm hJ hoff hdep
           have e69 := hdep 8 rfl rfl 69 rfl
           exact dp_skip (wanted_no rfl (yv_of rfl (e69.trans (congrArg B hb81)))) rfl hJ) ?_
         refine ac rfl (by
           intro k _nm ρ σm hJ hoff hdep
           have e69 := hdep 8 rfl rfl 69 rfl
           exact dp_skip (wanted_no rfl (yv_of rfl (e69.trans (congrArg B hb81)))) rfl hJ) ?_
         refine ac rfl (by
           intro k _nm ρ σm hJ hoff hdep
           have e69 := hdep 8 rfl rfl 69 rfl
           exact dp_skip (wanted_no rfl (yv_of rfl (e69.trans (congrArg B hb81)))) rfl hJ) ?_
         refine ac rfl (by
           intro k _nm ρ σm hJ hoff hdep
           have e69 := hdep 8 rfl rfl 69 rfl
           exact dp_skip (wanted_no rfl (yv_of rfl (e69.trans (congrArg B hb81)))) rfl hJ) ?_
         refine ac rfl (by
           intro k _nm ρ σm hJ hoff hdep
           have e69 := hdep 8 rfl rfl 69 rfl
           exact dp_skip (wanted_no rfl (yv_of rfl (e69.trans (congrArg B hb81)))) rfl hJ) ?_
         refine ac rfl (by
           intro k _nm ρ σm hJ hoff hdep
           have e69 := hdep 8 rfl rfl 69 rfl
           exact dp_skip (wanted_no rfl (yv_of rfl (e69.trans (congrArg B hb81)))) rfl hJ) ?_
         refine ac rfl (by
           intro k _nm ρ σm hJ hoff hdep
           have e69 := hdep 8 rfl rfl 69 rfl
           exact dp_skip (wanted_no rfl (yv_of rfl (e69.trans (congrArg B hb81)))) rfl hJ) ?_
         refine ac rfl (by
           intro k _nm ρ σm hJ hoff hdep
           have e69 := hdep 8 rfl rfl 69 rfl
           exact dp_skip (wanted_no rfl (yv_of rfl (e69.trans (congrArg B hb81)))) rfl hJ) ?_
         refine ac rfl (by
           intro k _nm ρ σm hJ hoff hdep
           have e69 := hdep 8 rfl rfl 69 rfl
           exact dp_skip (wanted_no rfl (yv_of rfl (e69.trans (congrArg B hb81)))) rfl hJ) ?_
         refine ac rfl (by
           intro k _nm ρ σm hJ hoff hdep
           have e69 := hdep 8 rfl rfl 69 rfl
           exact dp_skip (wanted_no rfl (yv_of rfl (e69.trans (congrArg B hb81)))) rfl hJ) ?_
         refine ac rfl (by
           intro k _nm ρ σm hJ hoff hdep
           have e69 := hdep 8 rfl rfl 69 rfl
           exact dp_skip (wanted_no rfl (yv_of rfl (e69.trans (congrArg B hb81)))) rfl hJ) ?_
         exact all_nil
        ·intro _nm ρ σ82 hJ hoff hrel
         have e3 := look_off (N := 97) (hoff 3 rfl) rfl
         have e4 := look_off (N := 97) (hoff 4 rfl) rfl
         have e5 := look_off (N := 97) (hoff 5 rfl) rfl
         have e7 := look_off (N := 97) (hoff 7 rfl) rfl
         have e8 := look_off (N := 97) (hoff 8 rfl) rfl
         have e9 := look_off (N := 97) (hoff 9 rfl) rfl
         have e10 := look_off (N := 97) (hoff 10 rfl) rfl
         have e69 := hrel 8 rfl 69 rfl
         have e79 := hrel 18 rfl 79 rfl
         have e84 := hrel 23 rfl 84 rfl
         obtain ⟨H, -⟩ := (show Hp S0 σ0 σ82 [Ch.ro 0 (Sl a57 r54 c58) r54, Ch.own n0 n0 (Sl a5 r2.1 c6) r2.1, Ch.ro n0 (Sl a7 r2.2.1 c8) r2.2.1, Ch.ro n0 (Sl a9 r2.2.2.1 c10) r2.2.2.1, Ch.own 0 n0 (Sl a15 r12 c16) r12, Ch.ro n0 (Sl a57 r54 c58) r54] ∧ Md (cov []) σ69 σ82 from hJ)
         clear hJ Hs
         rw [fr_lookL (L := [(3, (Sl a5 r2.1 c6)), (4, (Sl a7 r2.2.1 c8)), (5, (Sl a9 r2.2.2.1 c10)), (7, (I r2.2.2.2.2)), (8, (Sl a15 r12 c16)), (9, (Sl a57 r54 c58)), (10, (I s62)), (69, (B (!r78))), (79, undef), (84, undef)]) ⟨e3, e4, e5, e7, e8, e9, e10, e69, e79, e84, trivial⟩]
         clear hoff hrel e3 e4 e5 e7 e8 e9 e10 e69 e79 e84
         refine st_skip (congrArg some hb81) (st (v := (B true)) (rv_pick_t (congrArg B hb81) rfl) (w_end ?_))
         obtain rfl := sj h
         exact ⟨rfl, _, σ82, fr_join ⟨rfl, rfl, rfl, rfl, rfl, rfl, rfl, rfl, trivial⟩, rfl, H.sel' [1, 2, 3, 4, 5] rfl rfl⟩
       ·replace h := bif_f hb81 h
        revert h; refine br fun x83 hx84 h => ?_
        obtain ⟨b86, o87, hi85, -⟩ := (H.own 4 rfl).ix hx84
        have hc88 := ((H.own 4 rfl).at hx84 hi85).fst.int
        replace H := H.roLow 2 0 rfl (Nat.zero_le _)
        revert h; refine br fun r89 hx90 h => ?_
        have hc91 := c_laws_itemOf (Aw := a7) (Ax := c8) hx90
        replace H := H.roLow 4 0 rfl (Nat.zero_le _)
        revert h; refine br fun r94 hx95 h => ?_
        have hc96 := fun (a92 : Option Addr) (c93 : Nat) => c_impl_Distance (Du := a92) (Dv := c93) (Dw := a9) (Dx := c10) hx95
        revert h; refine br fun x97 hx98 h => ?_
        obtain ⟨b100, o101, hi99, -⟩ := (H.own 6 rfl).ix hx98
        have hc102 := ((H.own 6 rfl).at hx98 hi99).snd.int
        have Hs := H
        refine rg2 (σ := σ69) (Nm := (Option Addr) × (Nat)) 24 [6, 15, 18] [[false, false, false], [true, false, false], [true, true, false], [true, true, true]] [[(0, 0)], [(0, 0)], [(0, 0)], [(0, 0)], [(0, 0)], [(0, 0)], [(0, 1)], [(1, 1)], [(1, 1)], [(1, 1)], [(1, 1)], [(1, 1)], [(1, 1)], [(1, 1)], [(1, 1)], [(1, 2)], [(2, 2)], [(1, 1), (2, 2)], [(2, 3)], [(1, 1), (2, 2), (3, 3)], [(1, 1), (2, 2), (3, 3)], [(1, 1), (2, 2), (3, 3)], [(1, 1), (2, 2), (3, 3)], [(1, 1), (2, 2), (3, 3)]] 3 [fun ((a92, c93) : (Option Addr) × (Nat)) => fun σm => Hp S0 σ0 σm [Ch.ro 0 (Sl a9 r2.2.2.1 c10) r2.2.2.1, Ch.ro 0 (Sl a7 r2.2.1 c8) r2.2.1, Ch.ro 0 (Sl a57 r54 c58) r54, Ch.own n0 n0 (Sl a5 r2.1 c6) r2.1, Ch.ro n0 (Sl a7 r2.2.1 c8) r2.2.1, Ch.ro n0 (Sl a9 r2.2.2.1 c10) r2.2.2.1, Ch.own 0 n0 (Sl a15 r12 c16) r12, Ch.ro n0 (Sl a57 r54 c58) r54] ∧ Md (cov []) σ69 σm, fun ((a92, c93) : (Option Addr) × (Nat)) => fun σm => Hp S0 σ0 σm [Ch.ro 0 (Sl a9 r2.2.2.1 c10) r2.2.2.1, Ch.ro 0 (Sl a7 r2.2.1 c8) r2.2.1, Ch.ro 0 (Sl a57 r54 c58) r54, Ch.own n0 n0 (Sl a5 r2.1 c6) r2.1, Ch.ro n0 (Sl a7 r2.2.1 c8) r2.2.1, Ch.ro n0 (Sl a9 r2.2.2.1 c10) r2.2.2.1, Ch.own 0 n0 (Sl a15 r12 c16) r12, Ch.ro n0 (Sl a57 r54 c58) r54] ∧ Md (cov []) σ69 σm, fun ((a92, c93) : (Option Addr) × (Nat)) => fun σm => Hp S0 σ0 σm [Ch.ro 0 (Sl a92 r89.2.1 c93) r89.2.1, Ch.ro 0 (Sl a9 r2.2.2.1 c10) r2.2.2.1, Ch.ro 0 (Sl a7 r2.2.1 c8) r2.2.1, Ch.ro 0 (Sl a57 r54 c58) r54, Ch.own n0 n0 (Sl a5 r2.1 c6) r2.1, Ch.ro n0 (Sl a7 r2.2.1 c8) r2.2.1, Ch.ro n0 (Sl a9 r2.2.2.1 c10) r2.2.2.1, Ch.own 0 n0 (Sl a15 r12 c16) r12, Ch.ro n0 (Sl a57 r54 c58) r54] ∧ Md (cov []) σ69 σm, fun ((a92, c93) : (Option Addr) × (Nat)) => fun σm => Hp S0 σ0 σm [Ch.ro 0 (Sl a92 r89.2.1 c93) r89.2.1, Ch.ro 0 (Sl a9 r2.2.2.1 c10) r2.2.2.1, Ch.ro 0 (Sl a7 r2.2.1 c8) r2.2.1, Ch.ro 0 (Sl a57 r54 c58) r54, Ch.own n0 n0 (Sl a5 r2.1 c6) r2.1, Ch.ro n0 (Sl a7 r2.2.1 c8) r2.2.1, Ch.ro n0 (Sl a9 r2.2.2.1 c10) r2.2.2.1, Ch.own 0 n0 (Sl a15 r12 c16) r12, Ch.ro n0 (Sl a57 r54 c58) r54] ∧ Md (cov []) σ69 σm] [fun ((a92, c93) : (Option Addr) × (Nat)) => (Sl a57 r54 c58), fun ((a92, c93) : (Option Addr) × (Nat)) => (Sl a15 r12 c16), fun ((a92, c93) : (Option Addr) × (Nat)) => (I s62), fun ((a92, c93) : (Option Addr) × (Nat)) => (pt b75 o76), fun ((a92, c93) : (Option Addr) × (Nat)) => (pt b75 (o76 + 0)), fun ((a92, c93) : (Option Addr) × (Nat)) => (I x72.1), fun ((a92, c93) : (Option Addr) × (Nat)) => (B r78), fun ((a92, c93) : (Option Addr) × (Nat)) => (B (!r78)), fun ((a92, c93) : (Option Addr) × (Nat)) => (B (!r78)), fun ((a92, c93) : (Option Addr) × (Nat)) => (Sl a7 r2.2.1 c8), fun ((a92, c93) : (Option Addr) × (Nat)) => (Sl a15 r12 c16), fun ((a92, c93) : (Option Addr) × (Nat)) => (I s62), fun ((a92, c93) : (Option Addr) × (Nat)) => (pt b86 o87), fun ((a92, c93) : (Option Addr) × (Nat)) => (pt b86 (o87 + 0)), fun ((a92, c93) : (Option Addr) × (Nat)) => (I x83.1), fun ((a92, c93) : (Option Addr) × (Nat)) => (.agg #[(I r89.1), (Sl a92 r89.2.1 c93), (I r89.2.2)]), fun ((a92, c93) : (Option Addr) × (Nat)) => (Sl a92 r89.2.1 c93), fun ((a92, c93) : (Option Addr) × (Nat)) => (Sl a9 r2.2.2.1 c10), fun ((a92, c93) : (Option Addr) × (Nat)) => (I r94), fun ((a92, c93) : (Option Addr) × (Nat)) => (Sl a15 r12 c16), fun ((a92, c93) : (Option Addr) × (Nat)) => (I s62), fun ((a92, c93) : (Option Addr) × (Nat)) => (pt b100 o101), fun ((a92, c93) : (Option Addr) × (Nat)) => (pt b100 (o101 + 1)), fun ((a92, c93) : (Option Addr) × (Nat)) => (I x97.2)] (none, 0) (by kernel_rfl) (by kernel_rfl) ?_ ?_ ?_
        ·intro σm m0
         exact ⟨H.grow (m0.mono fun _ h => h.elim), m0⟩
        ·refine ac rfl (by
           intro k; rintro ⟨a92, c93⟩ ρ σm hJ hoff hdep
           have e9 := look_off (N := 97) (hoff 9 rfl) rfl
           exact dp_v (v := (Sl a57 r54 c58)) wn (rv_move e9) rfl hJ) ?_
         refine ac rfl (by
           intro k; rintro ⟨a92, c93⟩ ρ σm hJ hoff hdep
           have e8 := look_off (N := 97) (hoff 8 rfl) rfl
           exact dp_v (v := (Sl a15 r12 c16)) wn (rv_move e8) rfl hJ) ?_
         refine ac rfl (by
           intro k; rintro ⟨a92, c93⟩ ρ σm hJ hoff hdep
           have e10 := look_off (N := 97) (hoff 10 rfl) rfl
           exact dp_v (v := (I s62)) wn (rv_move e10) rfl hJ) ?_
         refine ac rfl (by
           intro k; rintro ⟨a92, c93⟩ ρ σm hJ hoff hdep
           have e62 := hdep 1 rfl rfl 62 rfl
           have e63 := hdep 2 rfl rfl 63 rfl
           exact dp_v (v := (pt b75 o76)) wn (rv_ix Tryz.underlying30 ti43 e62 e63 hi74) rfl hJ) ?_
         refine ac rfl (by
           intro k; rintro ⟨a92, c93⟩ ρ σm hJ hoff hdep
           have e64 := hdep 3 rfl rfl 64 rfl
           exact dp_v (v := (pt b75 (o76 + 0))) wn (rv_fieldAddr (off := 0) (ft := 3) Tryz.underlying43 rfl ti3 rfl e64) rfl hJ) ?_
         refine all_cons (by
           refine ⟨?_, ?_⟩
           ·rintro ⟨a92, c93⟩ ρ σm hJ hoff hdep
            have e65 := hdep 4 rfl rfl 65 rfl
            obtain ⟨H, m⟩ := id hJ
            have hc77 := ((H.own 6 rfl).at hx73 hi74).fst.int
            exact dp_v (v := (I x72.1)) wn (rv_load1 Tryz.underlying3 rfl e65 hc77) rfl hJ
           trivial) ?_
         refine all_cons (by
           refine ⟨?_, ?_⟩
           ·rintro ⟨a92, c93⟩ ρ σm hJ hoff hdep
            have e61 : look 97 ρ 61 = (Sl a57 r54 c58) := hdep 0 rfl rfl 61 rfl
            have e66 : look 97 ρ 66 = (I x72.1) := hdep 5 rfl rfl 66 rfl
            obtain ⟨H, m⟩ := id hJ
            refine dp_cx wn (cx_call hc80 (ent_f hc80.fn (by show [look 97 ρ 61, look 97 ρ 66] = _; rw [e61, e66])) hn0 (H.sel' [2, 0, 1, 2, 3, 4, 5, 6, 7] rfl rfl : Hp S0 σ0 _ ([_] ++ _))) ?_
            rintro _ σq ⟨_, ⟨rfl, rfl⟩, H2, m2⟩
            exact ⟨_, (a92, c93), rfl, rfl, ⟨H2.sel' [0, 1, 2, 3, 4, 5, 6, 7] rfl rfl, m.comp0 (m2.mono (fun i h => by simp [cov, Ch.ro] at h))⟩, stab [0, 1, 2, 3, 4, 5] (by kernel_rfl) ⟨rfl, rfl, rfl, rfl, rfl, rfl, trivial⟩⟩
           trivial) ?_
         refine ac rfl (by
           intro k; rintro ⟨a92, c93⟩ ρ σm hJ hoff hdep
           have e67 := hdep 6 rfl rfl 67 rfl
           exact dp_v (v := (B (!r78))) wn (rv_not e67) rfl hJ) ?_
         refine ac rfl (by
           intro k; rintro ⟨a92, c93⟩ ρ σm hJ hoff hdep
           have e68 := hdep 7 rfl rfl 68 rfl
           exact dp_v (v := (B (!r78))) wn (rv_move e68) rfl hJ) ?_
         refine ac rfl (by
           intro k; rintro ⟨a92, c93⟩ ρ σm hJ hoff hdep
           have e4 := look_off (N := 97) (hoff 4 rfl) rfl
           have e69 := hdep 8 rfl rfl 69 rfl
           exact dp_v (v := (Sl a7 r2.2.1 c8)) (wanted_yes rfl (yv_of rfl (e69.trans (congrArg B hb81)))) (rv_move e4) rfl hJ) ?_
         refine ac rfl (by
           intro k; rintro ⟨a92, c93⟩ ρ σm hJ hoff hdep
           have e8 := look_off (N := 97) (hoff 8 rfl) rfl
           have e69 := hdep 8 rfl rfl 69 rfl
           exact dp_v (v := (Sl a15 r12 c16)) (wanted_yes rfl (yv_of rfl (e69.trans (congrArg B hb81)))) (rv_move e8) rfl hJ) ?_
         refine ac rfl (by
           intro k; rintro ⟨a92, c93⟩ ρ σm hJ hoff hdep
           have e10 := look_off (N := 97) (hoff 10 rfl) rfl
           have e69 := hdep 8 rfl rfl 69 rfl
           exact dp_v (v := (I s62)) (wanted_yes rfl (yv_of rfl (e69.trans (congrArg B hb81)))) (rv_move e10) rfl hJ) ?_
         refine ac rfl (by
           intro k; rintro ⟨a92, c93⟩ ρ σm hJ hoff hdep
           have e71 := hdep 10 rfl rfl 71 rfl
           have e72 := hdep 11 rfl rfl 72 rfl
           have e69 := hdep 8 rfl rfl 69 rfl
           exact dp_v (v := (pt b86 o87)) (wanted_yes rfl (yv_of rfl (e69.trans (congrArg B hb81)))) (rv_ix Tryz.underlying30 ti43 e71 e72 hi85) rfl hJ) ?_
         refine ac rfl (by
           intro k; rintro ⟨a92, c93⟩ ρ σm hJ hoff hdep
           have e73 := hdep 12 rfl rfl 73 rfl
           have e69 := hdep 8 rfl rfl 69 rfl
           exact dp_v (v := (pt b86 (o87 + 0))) (wanted_yes rfl (yv_of rfl (e69.trans (congrArg B hb81)))) (rv_fieldAddr (off := 0) (ft := 3) Tryz.underlying43 rfl ti3 rfl e73) rfl hJ) ?_
         refine all_cons (by
           refine ⟨?_, ?_⟩
           ·rintro ⟨a92, c93⟩ ρ σm hJ hoff hdep
            have e74 := hdep 13 rfl rfl 74 rfl
            have e69 := hdep 8 rfl rfl 69 rfl
            obtain ⟨H, m⟩ := id hJ
            have hc88 := ((H.own 6 rfl).at hx84 hi85).fst.int
            exact dp_v (v := (I x83.1)) (wanted_yes rfl (yv_of rfl (e69.trans (congrArg B hb81)))) (rv_load1 Tryz.underlying3 rfl e74 hc88) rfl hJ
           trivial) ?_
         refine all_cons (by
           refine ⟨?_, ?_⟩
           ·rintro ⟨a92, c93⟩ ρ σm hJ hoff hdep
            have e70 : look 97 ρ 70 = (Sl a7 r2.2.1 c8) := hdep 9 rfl rfl 70 rfl
            have e75 : look 97 ρ 75 = (I x83.1) := hdep 14 rfl rfl 75 rfl
            have e69 := hdep 8 rfl rfl 69 rfl
            obtain ⟨H, m⟩ := id hJ
            refine dp_cx (wanted_yes rfl (yv_of rfl (e69.trans (congrArg B hb81)))) (cx_call hc91 (ent_f hc91.fn (by show [look 97 ρ 70, look 97 ρ 75] = _; rw [e70, e75])) hn0 (H.sel' [1, 0, 1, 2, 3, 4, 5, 6, 7] rfl rfl : Hp S0 σ0 _ ([_] ++ _))) ?_
            rintro _ σq ⟨_, ⟨a92x, c93x, rfl, rfl⟩, H2, m2⟩
            exact ⟨_, (a92x, c93x), rfl, rfl, ⟨H2.sel' [0, 1, 2, 3, 4, 5, 6, 7, 8] rfl rfl, m.comp0 (m2.mono (fun i h => by simp [cov, Ch.ro] at h))⟩, stab [0, 1, 2, 3, 4, 5, 6, 7, 8, 9, 10, 11, 12, 13, 14, 17, 19, 20, 21, 22, 23] (by kernel_rfl) ⟨rfl, rfl, rfl, rfl, rfl, rfl, rfl, rfl, rfl, rfl, rfl, rfl, rfl, rfl, rfl, rfl, rfl, rfl, rfl, rfl, rfl, trivial⟩⟩
           trivial) ?_
         refine ac rfl (by
           intro k; rintro ⟨a92, c93⟩ ρ σm hJ hoff hdep
           have e76 := hdep 15 rfl rfl 76 rfl
           have e69 := hdep 8 rfl rfl 69 rfl
           exact dp_v (v := (Sl a92 r89.2.1 c93)) (wanted_yes rfl (yv_of rfl (e69.trans (congrArg B hb81)))) (rv_field (off := 1) (ft := 27) Tryz.underlying34 rfl Tryz.underlying27 rfl e76 rfl) rfl hJ) ?_
         refine ac rfl (by
           intro k; rintro ⟨a92, c93⟩ ρ σm hJ hoff hdep
           have e5 := look_off (N := 97) (hoff 5 rfl) rfl
           have e69 := hdep 8 rfl rfl 69 rfl
           exact dp_v (v := (Sl a9 r2.2.2.1 c10)) (wanted_yes rfl (yv_of rfl (e69.trans (congrArg B hb81)))) (rv_move e5) rfl hJ) ?_
         refine all_cons (by
           refine ⟨?_, ?_⟩
           ·rintro ⟨a92, c93⟩ ρ σm hJ hoff hdep
            have e77 : look 97 ρ 77 = (Sl a92 r89.2.1 c93) := hdep 16 rfl rfl 77 rfl
            have e78 : look 97 ρ 78 = (Sl a9 r2.2.2.1 c10) := hdep 17 rfl rfl 78 rfl
            have e69 := hdep 8 rfl rfl 69 rfl
            obtain ⟨H, m⟩ := id hJ
            refine dp_cx (wanted_yes rfl (yv_of rfl (e69.trans (congrArg B hb81)))) (cx_call (hc96 a92 c93) (ent_f (hc96 a92 c93).fn (by show [(I 3), look 97 ρ 77, look 97 ρ 78] = _; rw [e77, e78])) hn0 (H.sel' [0, 1, 0, 1, 2, 3, 4, 5, 6, 7, 8] rfl rfl : Hp S0 σ0 _ ([_, _] ++ _))) ?_
            rintro _ σq ⟨_, ⟨rfl, rfl⟩, H2, m2⟩
            exact ⟨_, (a92, c93), rfl, rfl, ⟨H2.sel' [0, 1, 2, 3, 4, 5, 6, 7, 8] rfl rfl, m.comp0 (m2.mono (fun i h => by simp [cov, Ch.ro] at h))⟩, stab [0, 1, 2, 3, 4, 5, 6, 7, 8, 9, 10, 11, 12, 13, 14, 15, 16, 17, 19, 20, 21, 22, 23] (by kernel_rfl) ⟨rfl, rfl, rfl, rfl, rfl, rfl, rfl, rfl, rfl, rfl, rfl, rfl, rfl, rfl, rfl, rfl, rfl, rfl, rfl, rfl, rfl, rfl, rfl, trivial⟩⟩
           trivial) ?_
         refine ac rfl (by
           intro k; rintro ⟨a92, c93⟩ ρ σm hJ hoff hdep
           have e8 := look_off (N := 97) (hoff 8 rfl) rfl
           have e69 := hdep 8 rfl rfl 69 rfl
           exact dp_v (v := (Sl a15 r12 c16)) (wanted_yes rfl (yv_of rfl (e69.trans (congrArg B hb81)))) (rv_move e8) rfl hJ) ?_
         refine ac rfl (by
           intro k; rintro ⟨a92, c93⟩ ρ σm hJ hoff hdep
           have e10 := look_off (N := 97) (hoff 10 rfl) rfl
           have e69 := hdep 8 rfl rfl 69 rfl
           exact dp_v (v := (I s62)) (wanted_yes rfl (yv_of rfl (e69.trans (congrArg B hb81)))) (rv_move e10) rfl hJ) ?_
         refine ac rfl (by
           intro k; rintro ⟨a92, c93⟩ ρ σm hJ hoff hdep
           have e80 := hdep 19 rfl rfl 80 rfl
           have e81 := hdep 20 rfl rfl 81 rfl
           have e69 := hdep 8 rfl rfl 69 rfl
           exact dp_v (v := (pt b100 o101)) (wanted_yes rfl (yv_of rfl (e69.trans (congrArg B hb81)))) (rv_ix Tryz.underlying30 ti43 e80 e81 hi99) rfl hJ) ?_
         refine ac rfl (by
           intro k; rintro ⟨a92, c93⟩ ρ σm hJ hoff hdep
           have e82 := hdep 21 rfl rfl 82 rfl
           have e69 := hdep 8 rfl rfl 69 rfl
           exact dp_v (v := (pt b100 (o101 + 1))) (wanted_yes rfl (yv_of rfl (e69.trans (congrArg B hb81)))) (rv_fieldAddr (off := 1) (ft := 3) Tryz.underlying43 rfl ti3 rfl e82) rfl hJ) ?_
         refine all_cons (by
           refine ⟨?_, ?_⟩
           ·rintro ⟨a92, c93⟩ ρ σm hJ hoff hdep
            have e83 := hdep 22 rfl rfl 83 rfl
            have e69 := hdep 8 rfl rfl 69 rfl
            obtain ⟨H, m⟩ := id hJ
            have hc102 := ((H.own 6 rfl).at hx98 hi99).snd.int
            exact dp_v (v := (I x97.2)) (wanted_yes rfl (yv_of rfl (e69.trans (congrArg B hb81)))) (rv_load1 Tryz.underlying3 rfl e83 hc102) rfl hJ
           refine ⟨?_, ?_⟩
           ·rintro ⟨a92, c93⟩ ρ σm hJ hoff hdep
            have e83 := hdep 22 rfl rfl 83 rfl
            have e69 := hdep 8 rfl rfl 69 rfl
            obtain ⟨H, m⟩ := id hJ
            have hc102 := ((H.own 7 rfl).at hx98 hi99).snd.int
            exact dp_v (v := (I x97.2)) (wanted_yes rfl (yv_of rfl (e69.trans (congrArg B hb81)))) (rv_load1 Tryz.underlying3 rfl e83 hc102) rfl hJ
           refine ⟨?_, ?_⟩
           ·rintro ⟨a92, c93⟩ ρ σm hJ hoff hdep
            have e83 := hdep 22 rfl rfl 83 rfl
            have e69 := hdep 8 rfl rfl 69 rfl
            obtain ⟨H, m⟩ := id hJ
            have hc102 := ((H.own 7 rfl).at hx98 hi99).snd.int
            exact dp_v (v := (I x97.2)) (wanted_yes rfl (yv_of rfl (e69.trans (congrArg B hb81)))) (rv_load1 Tryz.underlying3 rfl e83 hc102) rfl hJ
           trivial) ?_
         exact all_nil
        ·rintro ⟨a92, c93⟩ ρ σ103 hJ hoff hrel
         have e3 := look_off (N := 97) (hoff 3 rfl) rfl
         have e4 := look_off (N := 97) (hoff 4 rfl) rfl
         have e5 := look_off (N := 97) (hoff 5 rfl) rfl
         have e7 := look_off (N := 97) (hoff 7 rfl) rfl
         have e8 := look_off (N := 97) (hoff 8 rfl) rfl
         have e9 := look_off (N := 97) (hoff 9 rfl) rfl
         have e10 := look_off (N := 97) (hoff 10 rfl) rfl
         have e69 := hrel 8 rfl 69 rfl
         have e79 := hrel 18 rfl 79 rfl
         have e84 := hrel 23 rfl 84 rfl
         obtain ⟨H, -⟩ := (show Hp S0 σ0 σ103 [Ch.ro 0 (Sl a92 r89.2.1 c93) r89.2.1, Ch.ro 0 (Sl a9 r2.2.2.1 c10) r2.2.2.1, Ch.ro 0 (Sl a7 r2.2.1 c8) r2.2.1, Ch.ro 0 (Sl a57 r54 c58) r54, Ch.own n0 n0 (Sl a5 r2.1 c6) r2.1, Ch.ro n0 (Sl a7 r2.2.1 c8) r2.2.1, Ch.ro n0 (Sl a9 r2.2.2.1 c10) r2.2.2.1, Ch.own 0 n0 (Sl a15 r12 c16) r12, Ch.ro n0 (Sl a57 r54 c58) r54] ∧ Md (cov []) σ69 σ103 from hJ)
         clear hJ Hs
         rw [fr_lookL (L := [(3, (Sl a5 r2.1 c6)), (4, (Sl a7 r2.2.1 c8)), (5, (Sl a9 r2.2.2.1 c10)), (7, (I r2.2.2.2.2)), (8, (Sl a15 r12 c16)), (9, (Sl a57 r54 c58)), (10, (I s62)), (69, (B (!r78))), (79, (I r94)), (84, (I x97.2))]) ⟨e3, e4, e5, e7, e8, e9, e10, e69, e79, e84, trivial⟩]
         clear hoff hrel e3 e4 e5 e7 e8 e9 e10 e69 e79 e84
         refine st_g (v := (B (r94 != x97.2))) (congrArg some hb81) (rv_neq (a := r94) (b := x97.2) rfl rfl) (st (v := (B (r94 != x97.2))) (rv_pick_f (congrArg B hb81) rfl) (w_end ?_))
         obtain rfl := sj h
         exact ⟨rfl, _, σ103, fr_join ⟨rfl, rfl, rfl, rfl, rfl, rfl, rfl, rfl, trivial⟩, rfl, H.sel' [4, 5, 6, 7, 8] rfl rfl⟩
      ·clear hj
       have h := h'
       clear h' H
       rintro e a w ⟨rfl, ρ, σ104, rfl, rfl, H⟩
       refine q_then ?_
       refine cd_cond o71 rfl (fun hb105 => ?_) (fun hb105 => ?_)
       ·replace h := bif_t hb105 h
        refine c_seq (rg (sa (B false) rfl (w_end (q_then (c_ret (q_blk_r (q_then_r (q_then_r (q_blk_r ?_)))))))))
        obtain rfl := sj h
        obtain rfl := hres _ rfl
        exact .inr (⟨_, rfl, rfl, _, σ104, fr_join ⟨rfl, trivial⟩, rfl, H.sel' [] rfl rfl⟩)
       ·replace h := bif_f hb105 h
        refine c_skip (q_blk (q_then (rg (sm (I s62) rfl (st (v := (I (w64 (s62 + 1)))) (rv_add (a := s62) (b := 1) rfl rfl) (sa (I (w64 (s62 + 1))) rfl (w_end (q_then ?_))))))))
        obtain rfl := sj h
        exact ⟨_, rfl, _, σ104, fr_join ⟨rfl, rfl, rfl, rfl, rfl, rfl, rfl, trivial⟩, rfl, H.sel' [0, 1, 2, 3, 4] rfl rfl⟩
     ·replace h := bif_f hb70 h
      refine c_exit (q_then_x (q_then_x (q_blk_hit ?_)))
      obtain rfl := sj h
      obtain rfl := hres _ rfl
      exact .inl ⟨_, rfl, rfl, _, σ69, fr_join ⟨rfl, rfl, rfl, rfl, trivial⟩, rfl, H.sel' [0, 1, 2] rfl rfl⟩
    ·clear hj
     have h := h'
     clear h' H
     rintro e a w (⟨t106, rfl, rfl, ρ, σ107, rfl, rfl, H⟩ | ⟨t130, rfl, rfl, ρ, σ131, rfl, rfl, H⟩)
     ·replace h := selim_l h
      refine q_then (c_seq (rg (sm (Sl a5 r2.1 c6) rfl (sm (Sl a7 r2.2.1 c8) rfl (sm (Sl a9 r2.2.2.1 c10) rfl (sm (I r2.2.2.2.2) rfl ?_))))))
      obtain ⟨σ108, hw109, H, -⟩ := H.pub 0 rfl (Nat.le_refl _)
      rw [← hw109]; clear hw109
      replace H := H.roLow 0 0 rfl (Nat.zero_le _)
      replace H := H.roLow 2 0 rfl (Nat.zero_le _)
      replace H := H.roLow 4 0 rfl (Nat.zero_le _)
      revert h; refine br fun r110 hx111 h => ?_
      have hc112 := c_impl_HashNearest (Fu := a5) (Fv := c6) (Fl := a7) (Fm := c8) (Bd := a9) (Be := c10) hx111
      refine st_call (cx_call hc112 (ent_f hc112.fn rfl) hn0 (H.sel' [2, 1, 0, 0, 1, 2, 3, 4, 5] rfl rfl : Hp S0 σ0 _ ([_, _, _] ++ _))) wn ?_
      rintro _ σ115 ⟨_, ⟨a113, c114, rfl, rfl⟩, H, -⟩
      replace H : Hp _ _ _ [_, _, _, _, _, _, _] := H
      refine sm (Sl a7 r2.2.1 c8) rfl (sm (Sl a9 r2.2.2.1 c10) rfl (sm (I r2.2.2.2.2) rfl ?_))
      replace H := H.roLow 5 0 rfl (Nat.zero_le _)
      replace H := H.roLow 7 0 rfl (Nat.zero_le _)
      revert h; refine br fun r116 hx117 h => ?_
      have hc118 := c_impl_Nearest (Aw := a7) (Ax := c8) (Bd := a9) (Be := c10) hx117
      refine st_call (cx_call hc118 (ent_f hc118.fn rfl) hn0 (H.sel' [1, 0, 0, 1, 2, 3, 4, 5, 6, 7, 8] rfl rfl : Hp S0 σ0 _ ([_, _] ++ _))) wn ?_
      rintro _ σ121 ⟨_, ⟨a119, c120, rfl, rfl⟩, H, -⟩
      replace H : Hp _ _ _ [_, _, _, _, _, _, _, _, _, _] := H
      replace H : Hp S0 σ0 σ121 [Ch.own 0 n0 (Sl a119 r116 c120) r116, Ch.own 0 n0 (Sl a113 r110 c114) r110] := H.sel' [0, 3] rfl rfl
      replace H := H.ownLow 1 0 0 rfl (Nat.le_refl _) (Nat.zero_le _)
      obtain ⟨σ122, hw123, H, -⟩ := H.pub 0 rfl (Nat.le_refl _)
      rw [← hw123]; clear hw123
      replace H := H.ownLow 1 0 0 rfl (Nat.le_refl _) (Nat.zero_le _)
      obtain ⟨σ124, hw125, H, -⟩ := H.pub 0 rfl (Nat.le_refl _)
      rw [← hw125]; clear hw125
      revert h; refine br fun r126 hx127 h => ?_
      have hc128 := c_laws_equalHits (Ad := a113) (Ae := c114) (Af := a119) (Ag := c120) hx127
      refine st_call (cx_call hc128 (ent_f hc128.fn rfl) hn0 (H.sel' [1, 0, 0, 1] rfl rfl : Hp S0 σ0 _ ([_, _] ++ _))) wn ?_
      rintro _ σ129 ⟨_, ⟨rfl, rfl⟩, H, -⟩
      replace H : Hp _ _ _ [_, _] := H
      refine sa (B r126) rfl (w_end (q_then (c_ret ?_)))
      obtain rfl := sj h
      exact fin_ret (v := (B r126)) (results_ok Tryz.results5 (res_tmp (v := (B r126)) rfl res_nil) rfl) ⟨rfl, rfl⟩ (H.sel' [] rfl rfl)
     ·replace h := selim_r h
      refine q_then_r ?_
      obtain rfl := sj h
      exact fin_ret (v := (B t130)) (results_ok Tryz.results5 (res_tmp (v := (B t130)) rfl res_nil) rfl) ⟨rfl, rfl⟩ (H.sel' [] rfl rfl)

end Go.Vs
