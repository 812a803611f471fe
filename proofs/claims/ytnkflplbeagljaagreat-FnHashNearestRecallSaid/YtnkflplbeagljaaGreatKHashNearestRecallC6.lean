/- The functions compute what their models say. -/
import Derived.Test.YtnkflplbeagljaaGreatKHashNearestRecallC5
set_option linter.unusedVariables false
set_option linter.unusedSimpArgs false
set_option maxRecDepth 20000
namespace Go.Vs
open Go Go.Proofs
attribute [local irreducible] Code.wp Code.wpIn wpList wpListIn wpQuiet Calls CallsIn

theorem c_spec_HashNearest {Fr : List (List Int)} {Fj : List (Int × (List Int) × Int)} {Bb : List Int} {Hc : Int} {Hd : Int} {Ft : Option Addr} {Fu : Nat} {Fk : Option Addr} {Fl : Nat} {Bd : Option Addr} {Be : Nat} {r : (List (Int × Int))} (h : M.spec_HashNearest Fr Fj Bb Hc Hd = some r) :
    Cal2 Tryz.prog 33 [(Sl Ft Fr Fu), (Sl Fk Fj Fl), (Sl Bd Bb Be), (I Hc), (I Hd)] [Ch.ro 0 (Sl Ft Fr Fu) Fr, Ch.ro 0 (Sl Fk Fj Fl) Fj, Ch.ro 0 (Sl Bd Bb Be) Bb] (fun n0 v L => ∃ (az1 : Option Addr), ∃ (cz2 : Nat), v = (Sl az1 r cz2) ∧ L = [Ch.own n0 n0 (Sl az1 r cz2) r]) := by
 refine cal2 (n := 63) Tryz.func33 rfl rfl rfl rfl ?_
 intro S0 σ0 n0 hn0 H
 unfold M.spec_HashNearest at h
 refine c_seq (rg (sa (.slice none 0 0) rfl (w_end (q_then (c_seq (c_seq ?_))))))
 obtain ⟨o1, hj, h'⟩ := bind_some h
 clear h
 refine c_cut (fun e a w => e = .normal ∧ ∃ (ρ : Nat → Value) (σ : St), a = fr 63 (updL ρ [(0, (Sl Ft Fr Fu)), (1, (Sl Fk Fj Fl)), (2, (Sl Bd Bb Be)), (3, (I Hc)), (4, (I Hd)), (32, (B o1))]) ∧ w = σ.w ∧ Hp S0 σ0 σ [Ch.ro 0 (Sl Ft Fr Fu) Fr, Ch.ro 0 (Sl Fk Fj Fl) Fj, Ch.ro 0 (Sl Bd Bb Be) Bb]) ?_ ?_
 ·clear h'
  rename _ = some o1 => h
  refine rg (sm (Sl Ft Fr Fu) rfl ?_)
  revert h; refine br fun r2 hx3 h => ?_
  have hc4 := c_spec_validPlanes (Ax := Ft) (Ay := Fu) hx3
  refine st_call (cx_call hc4 (ent_f hc4.fn rfl) hn0 (H.sel' [0, 0, 1, 2] rfl rfl : Hp S0 σ0 _ ([_] ++ _))) wn ?_
  rintro _ σ5 ⟨_, ⟨rfl, rfl⟩, H, -⟩
  replace H : Hp _ _ _ [_, _, _] := H
  refine st (v := (B (!r2))) (rv_not rfl) (sm (B (!r2)) rfl ?_)
  rcases Bool.eq_false_or_eq_true (!r2) with hb6 | hb6
  ·replace h := bif_t hb6 h
   refine st_skip (congrArg some hb6) (st_skip (congrArg some hb6) (st_skip (congrArg some hb6) (st_skip (congrArg some hb6) (st (v := (B true)) (rv_pick_t (congrArg B hb6) rfl) (sm (B true) rfl (st_skip rfl (st_skip rfl (st_skip rfl (st (v := (B true)) (rv_pick_t rfl rfl) (sm (B true) rfl (st_skip rfl ?_)))))))))))
   refine st_skip rfl (st_skip rfl (st (v := (B true)) (rv_pick_t rfl rfl) (w_end ?_)))
   obtain rfl := sj h
   exact ⟨rfl, _, σ5, fr_join ⟨rfl, rfl, rfl, rfl, rfl, rfl, trivial⟩, rfl, H.sel' [0, 1, 2] rfl rfl⟩
  ·replace h := bif_f hb6 h
   refine st_g (v := (Sl Fk Fj Fl)) (congrArg some hb6) (rv_move rfl) (st_g (v := (Sl Bd Bb Be)) (congrArg some hb6) (rv_move rfl) ?_)
   revert h; refine br fun r7 hx8 h => ?_
   have hc9 := c_spec_validQuery (Ax := Fk) (Ay := Fl) (Bd := Bd) (Be := Be) hx8
   refine st_call (cx_call hc9 (ent_f hc9.fn rfl) hn0 (H.sel' [1, 2, 0, 1, 2] rfl rfl : Hp S0 σ0 _ ([_, _] ++ _))) (wanted_yes rfl (by exact (congrArg some hb6))) ?_
   rintro _ σ10 ⟨_, ⟨rfl, rfl⟩, H, -⟩
   replace H : Hp _ _ _ [_, _, _] := H
   refine st_g (v := (B (!r7))) (congrArg some hb6) (rv_not rfl) (st (v := (B (!r7))) (rv_pick_f (congrArg B hb6) rfl) (sm (B (!r7)) rfl ?_))
   rcases Bool.eq_false_or_eq_true (!r7) with hb11 | hb11
   ·replace h := bif_t hb11 h
    refine st_skip (congrArg some hb11) (st_skip (congrArg some hb11) (st_skip (congrArg some hb11) (st (v := (B true)) (rv_pick_t (congrArg B hb11) rfl) (sm (B true) rfl (st_skip rfl (st_skip rfl (st_skip rfl (st (v := (B true)) (rv_pick_t rfl rfl) (w_end ?_)))))))))
    obtain rfl := sj h
    exact ⟨rfl, _, σ10, fr_join ⟨rfl, rfl, rfl, rfl, rfl, rfl, trivial⟩, rfl, H.sel' [0, 1, 2] rfl rfl⟩
   ·replace h := bif_f hb11 h
    refine st_g (v := (I Hc)) (congrArg some hb11) (rv_move rfl) ?_
    revert h; refine br fun r12 hx13 h => ?_
    have hc14 := c_spec_inRange hx13
    refine st_call (cx_call hc14 (ent_f hc14.fn rfl) hn0 (H.sel' [0, 1, 2] rfl rfl : Hp S0 σ0 _ ([] ++ _))) (wanted_yes rfl (by exact (congrArg some hb11))) ?_
    rintro _ σ15 ⟨_, ⟨rfl, rfl⟩, H, -⟩
    replace H : Hp _ _ _ [_, _, _] := H
    refine st_g (v := (B (!r12))) (congrArg some hb11) (rv_not rfl) (st (v := (B (!r12))) (rv_pick_f (congrArg B hb11) rfl) (sm (B (!r12)) rfl ?_))
    rcases Bool.eq_false_or_eq_true (!r12) with hb16 | hb16
    ·replace h := bif_t hb16 h
     refine st_skip (congrArg some hb16) (st_skip (congrArg some hb16) (st_skip (congrArg some hb16) (st (v := (B true)) (rv_pick_t (congrArg B hb16) rfl) (w_end ?_))))
     obtain rfl := sj h
     exact ⟨rfl, _, σ15, fr_join ⟨rfl, rfl, rfl, rfl, rfl, rfl, trivial⟩, rfl, H.sel' [0, 1, 2] rfl rfl⟩
    ·replace h := bif_f hb16 h
     refine st_g (v := (I Hd)) (congrArg some hb16) (rv_move rfl) ?_
     revert h; refine br fun r17 hx18 h => ?_
     have hc19 := c_spec_inRange hx18
     refine st_call (cx_call hc19 (ent_f hc19.fn rfl) hn0 (H.sel' [0, 1, 2] rfl rfl : Hp S0 σ0 _ ([] ++ _))) (wanted_yes rfl (by exact (congrArg some hb16))) ?_
     rintro _ σ20 ⟨_, ⟨rfl, rfl⟩, H, -⟩
     replace H : Hp _ _ _ [_, _, _] := H
     refine st_g (v := (B (!r17))) (congrArg some hb16) (rv_not rfl) (st (v := (B (!r17))) (rv_pick_f (congrArg B hb16) rfl) (w_end ?_))
     obtain rfl := sj h
     exact ⟨rfl, _, σ20, fr_join ⟨rfl, rfl, rfl, rfl, rfl, rfl, trivial⟩, rfl, H.sel' [0, 1, 2] rfl rfl⟩
 ·clear hj
  have h := h'
  clear h' H
  rintro e a w ⟨rfl, ρ, σ21, rfl, rfl, H⟩
  refine q_then ?_
  refine cd_cond o1 rfl (fun hb22 => ?_) (fun hb22 => ?_)
  ·replace h := bif_t hb22 h
   refine c_seq (rg (sa (.slice none 0 0) rfl (w_end (q_then (c_ret (q_then_r ?_))))))
   replace H := H.nilOwn (Int × Int) n0 n0
   obtain rfl := sj h
   exact fin_ret (v := (.slice none 0 0)) (results_ok Tryz.results33 (res_tmp (v := (.slice none 0 0)) rfl res_nil) rfl) ⟨none, 0, rfl, rfl⟩ (H.sel' [0] rfl rfl)
  ·replace h := bif_f hb22 h
   refine c_skip (q_then (c_seq (rg (sm (Sl Ft Fr Fu) rfl (sm (Sl Fk Fj Fl) rfl (sm (Sl Bd Bb Be) rfl (sm (I Hc) rfl ?_)))))))
   revert h; refine br fun r23 hx24 h => ?_
   have hc25 := c_spec_BucketOf (Ft := Ft) (Fu := Fu) (Fk := Fk) (Fl := Fl) (Bd := Bd) (Be := Be) hx24
   refine st_call (cx_call hc25 (ent_f hc25.fn rfl) hn0 (H.sel' [0, 1, 2, 0, 1, 2] rfl rfl : Hp S0 σ0 _ ([_, _, _] ++ _))) wn ?_
   rintro _ σ28 ⟨_, ⟨a26, c27, rfl, rfl⟩, H, -⟩
   replace H : Hp _ _ _ [_, _, _, _] := H
   refine sa (Sl a26 r23 c27) rfl (w_end (q_then (c_seq (rg ?_))))
   refine st_ex (ex_buildSlice (el := n0) (xs := ([] : List (Int × (List Int) × Int))) (ps := []) (cs := []) H hn0 Tryz.underlying23 ti33 rfl rfl (by kernel_rfl) (.nil) rfl) wn ?_
   rintro _ σ30 ⟨b29, rfl, H, -⟩
   refine sa (Sl (some ⟨b29, 0, none⟩) ([] : List (Int × (List Int) × Int)) 0) rfl (w_end (q_then (c_seq (c_seq (rg (sa (I 0) rfl (w_end (q_then ?_))))))))
   obtain ⟨o31, hj, h'⟩ := bind_some h
   clear h
   refine c_cut (fun e a w => e = .normal ∧ ∃ (ρ : Nat → Value) (σ : St) (aj1 : Option Addr) (cj2 : Nat), a = fr 63 (updL ρ [(2, (Sl Bd Bb Be)), (4, (I Hd)), (12, (Sl aj1 o31 cj2))]) ∧ w = σ.w ∧ Hp S0 σ0 σ [Ch.ro 0 (Sl Bd Bb Be) Bb, Ch.own n0 0 (Sl aj1 o31 cj2) o31]) ?_ ?_
   ·clear h'
    rename _ = some o31 => h
    refine c_blk ?_
    replace H := H.ownLow 0 n0 0 rfl (Nat.le_refl _) (Nat.zero_le _)
    refine wp_loopM _ h (fun s32 a w => ∃ (ρ : Nat → Value) (σ : St) (aj1 : Option Addr) (cj2 : Nat), a = fr 63 (updL ρ [(1, (Sl Fk Fj Fl)), (2, (Sl Bd Bb Be)), (4, (I Hd)), (11, (Sl a26 r23 c27)), (12, (Sl aj1 s32.1 cj2)), (13, (I s32.2))]) ∧ w = σ.w ∧ Hp S0 σ0 σ [Ch.ro 0 (Sl Fk Fj Fl) Fj, Ch.ro 0 (Sl Bd Bb Be) Bb, Ch.own n0 n0 (Sl a26 r23 c27) r23, Ch.own n0 0 (Sl aj1 s32.1 cj2) s32.1]) ⟨_, σ30, (some ⟨b29, 0, none⟩), 0, fr_join ⟨rfl, rfl, rfl, rfl, rfl, rfl, trivial⟩, rfl, H.sel' [3, 4, 1, 0] rfl rfl⟩ ?_
    clear h H
    rintro s32 a w o ⟨ρ, σ33, a34, c35, rfl, rfl, H⟩ h hres
    refine c_seq (c_seq (rg (sm (I s32.2) rfl (sm (Sl Fk Fj Fl) rfl (st (v := (I (Fj.length : Int))) (rv_len Tryz.underlying23 rfl) (st (v := (B (decide (s32.2 < (Fj.length : Int))))) (rv_lss (a := s32.2) (b := (Fj.length : Int)) rfl rfl) (w_end (q_then ?_))))))))
    refine cd_cond (decide (s32.2 < (Fj.length : Int))) rfl (fun hb36 => ?_) (fun hb36 => ?_)
    ·replace h := bif_t hb36 h
     refine c_skip (q_then (c_seq ?_))
     obtain ⟨o37, hj, h'⟩ := bind_some h
     clear h
     refine c_cut (fun e a w => e = .normal ∧ ∃ (ρ : Nat → Value) (σ : St) (aj1 : Option Addr) (cj2 : Nat), a = fr 63 (updL ρ [(1, (Sl Fk Fj Fl)), (2, (Sl Bd Bb Be)), (4, (I Hd)), (11, (Sl a26 r23 c27)), (12, (Sl aj1 o37 cj2)), (13, (I s32.2))]) ∧ w = σ.w ∧ Hp S0 σ0 σ [Ch.ro 0 (Sl Fk Fj Fl) Fj, Ch.ro 0 (Sl Bd Bb Be) Bb, Ch.own n0 n0 (Sl a26 r23 c27) r23, Ch.own n0 0 (Sl aj1 o37 cj2) o37]) ?_ ?_
     ·clear h'
      rename _ = some o37 => h
      refine c_blk (c_seq (rg (sm (Sl a26 r23 c27) rfl (sm (Sl Fk Fj Fl) rfl (sm (I s32.2) rfl ?_)))))
      revert h; refine br fun x38 hx39 h => ?_
      obtain ⟨b41, o42, hi40, -⟩ := (H.ro 0 rfl).ix hx39
      refine st (v := (pt b41 o42)) (rv_ix Tryz.underlying23 ti33 rfl rfl hi40) (st (v := (pt b41 (o42 + 0))) (rv_fieldAddr (off := 0) (ft := 3) Tryz.underlying33 rfl ti3 rfl rfl) ?_)
      have hc43 := ((H.ro 0 rfl).at hx39 hi40).fst.int
      refine st (v := (I x38.1)) (rv_load1 Tryz.underlying3 rfl rfl hc43) ?_
      revert h; refine br fun r44 hx45 h => ?_
      have hc46 := c_spec_isIn (Ax := a26) (Ay := c27) hx45
      have hle := Nat.le_trans hn0 H.size
      refine st_call (cx_lend (Loan.lend Loan.nil) hc46 (ent_f hc46.fn rfl) (show Hp S0 σ0 _ ([Ch.own n0 n0 (Sl a26 r23 c27) r23] ++ ([] ++ [Ch.ro 0 (Sl Fk Fj Fl) Fj, Ch.ro 0 (Sl Bd Bb Be) Bb, Ch.own n0 0 (Sl a34 s32.1 c35) s32.1])) from (H.sel' [2, 0, 1, 3] rfl rfl)) (by rintro _ _ _ ⟨rfl, rfl⟩; exact trivial)) wn ?_
      rintro _ σ47 ⟨_, ⟨rfl, rfl⟩, H, -, -⟩
      replace H : Hp _ _ _ [_, _, _, _] := H
      clear hle
      replace H : Hp _ _ _ [_, _, _, _] := H
      refine w_end (q_then ?_)
      refine cd_cond r44 rfl (fun hb48 => ?_) (fun hb48 => ?_)
      ·replace h := bif_t hb48 h
       refine rg (sm (Sl a34 s32.1 c35) rfl (sm (Sl Fk Fj Fl) rfl (sm (I s32.2) rfl ?_)))
       revert h; refine br fun x49 hx50 h => ?_
       obtain ⟨b52, o53, hi51, -⟩ := (H.ro 1 rfl).ix hx50
       refine st (v := (pt b52 o53)) (rv_ix Tryz.underlying23 ti33 rfl rfl hi51) ?_
       obtain ⟨_, ⟨_, _, rfl, rfl, ⟨_, _, rfl, ⟨_, rfl, hR58⟩, rfl⟩⟩, hl54, hc55⟩ := ((H.ro 1 rfl).at hx50 hi51).cells
       obtain ⟨a56, c57, rfl⟩ := hR58.isSl
       replace H := H.add (d := Ch.ro 0 (Sl a56 x49.2.1 c57) x49.2.1) hR58 (fun _ h => h)
       clear hR58
       refine st (v := (.agg #[(I x49.1), (Sl a56 x49.2.1 c57), (I x49.2.2)])) (rv_load Tryz.underlying33 rfl ti33 rfl hl54 hc55) ?_
       refine st_ex (ex_buildSlice (el := 0) (xs := ([(x49.1, x49.2.1, x49.2.2)] : List (Int × (List Int) × Int))) (ps := [(0, (.agg #[(I x49.1), (Sl a56 x49.2.1 c57), (I x49.2.2)]))]) (cs := [(I x49.1), (Sl a56 x49.2.1 c57), (I x49.2.2)]) H hn0 Tryz.underlying23 ti33 rfl rfl (by kernel_rfl) (.cons (c := [(I x49.1), (Sl a56 x49.2.1 c57), (I x49.2.2)]) ⟨[(I x49.1)], [(Sl a56 x49.2.1 c57), (I x49.2.2)], rfl, rfl, ⟨[(Sl a56 x49.2.1 c57)], [(I x49.2.2)], rfl, ⟨_, rfl, (H.ro 0 rfl)⟩, rfl⟩⟩ (.nil)) rfl) wn ?_
       rintro _ σ60 ⟨b59, rfl, H, -⟩
       revert h; refine br fun xs61 hx62 h => ?_
       refine st_ex (ex_append H (i := 5) rfl Tryz.underlying23 Tryz.underlying23 ti33 rfl rfl (by decide) (H.own 0 rfl).rd hx62 hn0 rfl rfl) wn ?_
       rintro _ σ65 ⟨a63, c64, rfl, H, -⟩
       refine sa (Sl a63 xs61 c64) rfl (w_end (q_blk ?_))
       obtain rfl := sj h
       exact ⟨rfl, _, σ65, a63, c64, fr_join ⟨rfl, rfl, rfl, rfl, rfl, rfl, trivial⟩, rfl, H.sel' [4, 5, 3, 0] rfl rfl⟩
      ·replace h := bif_f hb48 h
       refine c_skip (q_blk ?_)
       obtain rfl := sj h
       exact ⟨rfl, _, σ47, a34, c35, fr_join ⟨rfl, rfl, rfl, rfl, rfl, rfl, trivial⟩, rfl, H.sel' [1, 2, 0, 3] rfl rfl⟩
     ·clear hj
      have h := h'
      clear h' H
      rintro e a w ⟨rfl, ρ, σ66, a67, c68, rfl, rfl, H⟩
      refine q_then (rg (sm (I s32.2) rfl (st (v := (I (w64 (s32.2 + 1)))) (rv_add (a := s32.2) (b := 1) rfl rfl) (sa (I (w64 (s32.2 + 1))) rfl (w_end (q_then ?_))))))
      obtain rfl := sj h
      exact ⟨_, rfl, _, σ66, a67, c68, fr_join ⟨rfl, rfl, rfl, rfl, rfl, rfl, trivial⟩, rfl, H.sel' [0, 1, 2, 3] rfl rfl⟩
    ·replace h := bif_f hb36 h
     refine c_exit (q_then_x (q_then_x (q_blk_hit ?_)))
     obtain rfl := sj h
     obtain rfl := hres _ rfl
     exact ⟨rfl, _, σ33, a34, c35, fr_join ⟨rfl, rfl, rfl, trivial⟩, rfl, H.sel' [1, 3] rfl rfl⟩
   ·clear hj
    have h := h'
    clear h' H
    rintro e a w ⟨rfl, ρ, σ69, a70, c71, rfl, rfl, H⟩
    refine q_then (c_seq (rg (sm (Sl a70 o31 c71) rfl (sm (Sl Bd Bb Be) rfl (sm (I Hd) rfl ?_)))))
    obtain ⟨σ72, hw73, H, -⟩ := H.pub 1 rfl (Nat.zero_le _)
    rw [← hw73]; clear hw73
    revert h; refine br fun r74 hx75 h => ?_
    have hc76 := c_spec_nearest (Ax := a70) (Ay := c71) (Bd := Bd) (Be := Be) hx75
    refine st_call (cx_call hc76 (ent_f hc76.fn rfl) hn0 (H.sel' [0, 1, 0, 1] rfl rfl : Hp S0 σ0 _ ([_, _] ++ _))) wn ?_
    rintro _ σ79 ⟨_, ⟨a77, c78, rfl, rfl⟩, H, -⟩
    replace H : Hp _ _ _ [_, _, _] := H
    refine sa (Sl a77 r74 c78) rfl (w_end (q_then (c_ret ?_)))
    obtain rfl := sj h
    exact fin_ret (v := (Sl a77 r74 c78)) (results_ok Tryz.results33 (res_tmp (v := (Sl a77 r74 c78)) rfl res_nil) rfl) ⟨a77, c78, rfl, rfl⟩ (H.sel' [0] rfl rfl)

theorem c_impl_validHit {Bf : Int × Int}  {r : Bool} (h : M.impl_validHit Bf = some r) :
    Cal2 Tryz.prog 47 [(.agg #[(I Bf.1), (I Bf.2)])] [] (fun n0 v L => v = (B r) ∧ L = []) := by
 refine cal2 (n := 16) Tryz.func47 rfl rfl rfl rfl ?_
 intro S0 σ0 n0 hn0 H
 unfold M.impl_validHit at h
 refine c_seq (rg (st_ex (ex_box (cs := [(I Bf.1), (I Bf.2)]) H hn0 rfl rfl) wn ?_))
 rintro _ σ2 ⟨b1, rfl, H, -⟩
 refine sa (B false) rfl (w_end (q_then (c_seq (rg (st (v := (pt b1 0)) (rv_fieldAddr (off := 0) (ft := 3) Tryz.underlying44 rfl ti3 rfl rfl) ?_)))))
 have hc3 := H.cell (u := (I Bf.1)) (o' := 0) 0 0 rfl rfl rfl
 refine st (v := (I Bf.1)) (rv_load1 Tryz.underlying3 rfl rfl hc3) ?_
 revert h; refine br fun r4 hx5 h => ?_
 have hc6 := c_impl_validKey hx5
 refine st_call (cx_call hc6 (ent_f hc6.fn rfl) hn0 (H.sel' [0] rfl rfl : Hp S0 σ0 _ ([] ++ _))) wn ?_
 rintro _ σ7 ⟨_, ⟨rfl, rfl⟩, H, -⟩
 replace H : Hp _ _ _ [_] := H
 refine sm (B r4) rfl ?_
 rcases Bool.eq_false_or_eq_true r4 with hb8 | hb8
 ·replace h := bif_t hb8 h
  refine st_g (v := (pt b1 1)) (congrArg some hb8) (rv_fieldAddr (off := 1) (ft := 3) Tryz.underlying44 rfl ti3 rfl rfl) ?_
  have hc9 := H.cell (u := (I Bf.2)) (o' := 1) 0 1 rfl rfl rfl
  refine st_g (v := (I Bf.2)) (congrArg some hb8) (rv_load1 Tryz.underlying3 rfl rfl hc9) (st_g (v := (B (decide (0 ≤ Bf.2)))) (congrArg some hb8) (rv_geq (a := Bf.2) (b := 0) rfl rfl) (st (v := (B (decide (0 ≤ Bf.2)))) (rv_pick_t (congrArg B hb8) rfl) (sm (B (decide (0 ≤ Bf.2))) rfl ?_)))
  rcases Bool.eq_false_or_eq_true (decide (0 ≤ Bf.2)) with hb10 | hb10
  ·replace h := bif_t hb10 h
   refine st_g (v := (pt b1 1)) (congrArg some hb10) (rv_fieldAddr (off := 1) (ft := 3) Tryz.underlying44 rfl ti3 rfl rfl) ?_
   have hc11 := H.cell (u := (I Bf.2)) (o' := 1) 0 1 rfl rfl rfl
   refine st_g (v := (I Bf.2)) (congrArg some hb10) (rv_load1 Tryz.underlying3 rfl rfl hc11) (st_g (v := (B (decide (Bf.2 ≤ 1000000)))) (congrArg some hb10) (rv_leq (a := Bf.2) (b := 1000000) rfl rfl) (st (v := (B (decide (Bf.2 ≤ 1000000)))) (rv_pick_t (congrArg B hb10) rfl) (sa (B (decide (Bf.2 ≤ 1000000))) rfl (w_end (q_then (c_ret ?_))))))
   obtain rfl := sj h
   exact fin_ret (v := (B (decide (Bf.2 ≤ 1000000)))) (results_ok Tryz.results47 (res_tmp (v := (B (decide (Bf.2 ≤ 1000000)))) rfl res_nil) rfl) ⟨rfl, rfl⟩ (H.sel' [] rfl rfl)
  ·replace h := bif_f hb10 h
   refine st_skip (congrArg some hb10) (st_skip (congrArg some hb10) (st_skip (congrArg some hb10) (st (v := (B false)) (rv_pick_f (congrArg B hb10) rfl) (sa (B false) rfl (w_end (q_then (c_ret ?_)))))))
   obtain rfl := sj h
   exact fin_ret (v := (B false)) (results_ok Tryz.results47 (res_tmp (v := (B false)) rfl res_nil) rfl) ⟨rfl, rfl⟩ (H.sel' [] rfl rfl)
 ·replace h := bif_f hb8 h
  refine st_skip (congrArg some hb8) (st_skip (congrArg some hb8) (st_skip (congrArg some hb8) (st (v := (B false)) (rv_pick_f (congrArg B hb8) rfl) (sm (B false) rfl (st_skip rfl (st_skip rfl (st_skip rfl (st (v := (B false)) (rv_pick_f rfl rfl) (sa (B false) rfl (w_end (q_then ?_)))))))))))
  refine c_ret ?_
  obtain rfl := sj h
  exact fin_ret (v := (B false)) (results_ok Tryz.results47 (res_tmp (v := (B false)) rfl res_nil) rfl) ⟨rfl, rfl⟩ (H.sel' [] rfl rfl)

theorem c_impl_placeIn_1__p3 {Bf : Int × Int} {Dy : Int} {Ea Eb Ec : Nat} {Ed Ee : List Value} {r : Bool} (h : M.impl_placeIn_1__p3 Bf Dy = some r) :
    Cal2 Tryz.prog 100 [(.agg #[(I Bf.1), (I Bf.2)]), (pt Eb Ec)] [Ch.bx Ea Eb Ec [(I Dy)] Ed Ee] (fun n0 v L => v = (B r) ∧ L = [Ch.bx Ea Eb Ec [(I Dy)] Ed Ee]) := by
 refine cal2 (n := 8) Tryz.func100 rfl rfl rfl rfl ?_
 intro S0 σ0 n0 hn0 H
 unfold M.impl_placeIn_1__p3 at h
 refine c_seq (rg (st_ex (ex_box (cs := [(I Bf.1), (I Bf.2)]) H hn0 rfl rfl) wn ?_))
 rintro _ σ2 ⟨b1, rfl, H, -⟩
 refine sa (B false) rfl (w_end (q_then (c_seq (rg (st (v := (pt b1 0)) (rv_fieldAddr (off := 0) (ft := 3) Tryz.underlying44 rfl ti3 rfl rfl) ?_)))))
 have hc3 := H.cell (u := (I Bf.1)) (o' := 0) 0 0 rfl rfl rfl
 refine st (v := (I Bf.1)) (rv_load1 Tryz.underlying3 rfl rfl hc3) ?_
 have hc4 := H.cell (u := (I Dy)) (o' := Ec) 1 0 rfl rfl rfl
 refine st (v := (I Dy)) (rv_load1 Tryz.underlying3 rfl rfl hc4) (st (v := (B (Bf.1 == Dy))) (rv_eql (a := Bf.1) (b := Dy) rfl rfl) (sa (B (Bf.1 == Dy)) rfl (w_end (q_then (c_ret ?_)))))
 obtain rfl := sj h
 exact fin_ret (v := (B (Bf.1 == Dy))) (results_ok Tryz.results100 (res_tmp (v := (B (Bf.1 == Dy))) rfl res_nil) rfl) ⟨rfl, rfl⟩ (H.sel' [1] rfl rfl)

theorem c_slices_IndexFunc_impl_Hit_impl_Hit__impl_placeIn_1 {Cp : List (Int × Int)} {Hg : Int} {Cq : Option Addr} {Cr : Nat} {Hi Hj Hk : Nat} {Hl Hm : List Value} {r : Int} (h : M.slices_IndexFunc_impl_Hit_impl_Hit__impl_placeIn_1 Cp Hg = some r) :
    Cal2 Tryz.prog 90 [(Sl Cq Cp Cr), (.func (.func 100) #[] #[(pt Hj Hk)])] [Ch.ro 0 (Sl Cq Cp Cr) Cp, Ch.bx Hi Hj Hk [(I Hg)] Hl Hm] (fun n0 v L => v = (I r) ∧ L = [Ch.bx Hi Hj Hk [(I Hg)] Hl Hm]) := by
 refine cal2 (n := 19) Tryz.func90 rfl rfl rfl rfl ?_
 intro S0 σ0 n0 hn0 H
 unfold M.slices_IndexFunc_impl_Hit_impl_Hit__impl_placeIn_1 at h
 refine c_seq (rg (sa (I 0) rfl (w_end (q_then (c_seq (c_seq (rg (sm (Sl Cq Cp Cr) rfl (st (v := (I (Cp.length : Int))) (rv_len Tryz.underlying27 rfl) (sm (I 0) rfl (w_end ?_)))))))))))
 refine q_then ?_
 obtain ⟨o1, hj, h'⟩ := bind_some h
 clear h
 refine c_cut (fun e a w => (∃ t, o1 = (.inl t) ∧ e = .normal ∧ ∃ (ρ : Nat → Value) (σ : St), a = fr 19 (updL ρ [(1, (.func (.func 100) #[] #[(pt Hj Hk)]))]) ∧ w = σ.w ∧ Hp S0 σ0 σ [Ch.bx Hi Hj Hk [(I Hg)] Hl Hm]) ∨ (∃ t, o1 = (.inr t) ∧ e = .ret ∧ ∃ (ρ : Nat → Value) (σ : St), a = fr 19 (updL ρ [(1, (.func (.func 100) #[] #[(pt Hj Hk)])), (4, (I t))]) ∧ w = σ.w ∧ Hp S0 σ0 σ [Ch.bx Hi Hj Hk [(I Hg)] Hl Hm])) ?_ ?_
 ·clear h'
  rename _ = some o1 => h
  refine c_blk (wp_loopM _ h (fun s2 a w => ∃ (ρ : Nat → Value) (σ : St), a = fr 19 (updL ρ [(0, (Sl Cq Cp Cr)), (1, (.func (.func 100) #[] #[(pt Hj Hk)])), (7, (I (Cp.length : Int))), (8, (I s2))]) ∧ w = σ.w ∧ Hp S0 σ0 σ [Ch.ro 0 (Sl Cq Cp Cr) Cp, Ch.bx Hi Hj Hk [(I Hg)] Hl Hm]) ⟨_, σ0, fr_join ⟨rfl, rfl, rfl, rfl, trivial⟩, rfl, H.sel' [0, 1] rfl rfl⟩ ?_)
  clear h H
  rintro s2 a w o ⟨ρ, σ3, rfl, rfl, H⟩ h hres
  refine c_seq (rg (st (v := (B (decide (s2 < (Cp.length : Int))))) (rv_lss (a := s2) (b := (Cp.length : Int)) rfl rfl) (w_end (q_then (c_seq ?_)))))
  refine cd_cond (decide (s2 < (Cp.length : Int))) rfl (fun hb4 => ?_) (fun hb4 => ?_)
  ·replace h := bif_t hb4 h
   refine c_skip (q_then (c_seq (c_blk (c_seq (rg (sm (I s2) rfl (sa (I s2) rfl (w_end (q_then (c_seq (rg ?_)))))))))))
   refine sm (.func (.func 100) #[] #[(pt Hj Hk)]) rfl (sm (Sl Cq Cp Cr) rfl (sm (I s2) rfl ?_))
   revert h; refine br fun x5 hx6 h => ?_
   obtain ⟨b8, o9, hi7, -⟩ := (H.ro 0 rfl).ix hx6
   refine st (v := (pt b8 o9)) (rv_ix Tryz.underlying27 ti44 rfl rfl hi7) ?_
   obtain ⟨_, ⟨_, _, rfl, rfl, rfl⟩, hl10, hc11⟩ := ((H.ro 0 rfl).at hx6 hi7).cells
   refine st (v := (.agg #[(I x5.1), (I x5.2)])) (rv_load Tryz.underlying44 rfl ti44 rfl hl10 hc11) ?_
   revert h; refine br fun r12 hx13 h => ?_
   have hc14 := c_impl_placeIn_1__p3 (Ea := Hi) (Eb := Hj) (Ec := Hk) (Ed := Hl) (Ee := Hm) hx13
   refine st_call (cx_call hc14 (ent_v (cap := [(pt Hj Hk)]) hc14.fn rfl rfl) hn0 (H.sel' [1, 0] rfl rfl : Hp S0 σ0 _ ([_] ++ _))) wn ?_
   rintro _ σ15 ⟨_, ⟨rfl, rfl⟩, H, -⟩
   replace H : Hp _ _ _ [_, _] := H
   refine w_end (q_then ?_)
   refine cd_cond r12 rfl (fun hb16 => ?_) (fun hb16 => ?_)
   ·replace h := bif_t hb16 h
    refine c_seq (rg (sm (I s2) rfl (sa (I s2) rfl (w_end (q_then (c_ret (q_blk_r (q_then_r (q_then_r (q_blk_r ?_))))))))))
    obtain rfl := sj h
    obtain rfl := hres _ rfl
    exact .inr (⟨_, rfl, rfl, _, σ15, fr_join ⟨rfl, rfl, trivial⟩, rfl, H.sel' [0] rfl rfl⟩)
   ·replace h := bif_f hb16 h
    refine c_skip (q_blk (q_then (rg (st (v := (I (w64 (s2 + 1)))) (rv_add (a := s2) (b := 1) rfl rfl) (sm (I (w64 (s2 + 1))) rfl (w_end (q_then ?_)))))))
    obtain rfl := sj h
    exact ⟨_, rfl, _, σ15, fr_join ⟨rfl, rfl, rfl, rfl, trivial⟩, rfl, H.sel' [1, 0] rfl rfl⟩
  ·replace h := bif_f hb4 h
   refine c_exit (q_then_x (q_then_x (q_blk_hit ?_)))
   obtain rfl := sj h
   obtain rfl := hres _ rfl
   exact .inl ⟨_, rfl, rfl, _, σ3, fr_join ⟨rfl, trivial⟩, rfl, H.sel' [1] rfl rfl⟩
 ·clear hj
  have h := h'
  clear h' H
  rintro e a w (⟨t17, rfl, rfl, ρ, σ18, rfl, rfl, H⟩ | ⟨t19, rfl, rfl, ρ, σ20, rfl, rfl, H⟩)
  ·replace h := selim_l h
   refine q_then (c_seq (rg (sa (I (-1)) rfl (w_end (q_then (c_ret ?_))))))
   obtain rfl := sj h
   exact fin_ret (v := (I (-1))) (results_ok Tryz.results90 (res_tmp (v := (I (-1))) rfl res_nil) rfl) ⟨rfl, rfl⟩ (H.sel' [0] rfl rfl)
  ·replace h := selim_r h
   refine q_then_r ?_
   obtain rfl := sj h
   exact fin_ret (v := (I t19)) (results_ok Tryz.results90 (res_tmp (v := (I t19)) rfl res_nil) rfl) ⟨rfl, rfl⟩ (H.sel' [0] rfl rfl)

theorem c_impl_placeIn {Aw : List (Int × Int)} {Hn : Int} {Ax : Option Addr} {Ay : Nat} {r : Int} (h : M.impl_placeIn Aw Hn = some r) :
    Cal2 Tryz.prog 49 [(Sl Ax Aw Ay), (I Hn)] [Ch.ro 0 (Sl Ax Aw Ay) Aw] (fun n0 v L => v = (I r) ∧ L = []) := by
 refine cal2 (n := 8) Tryz.func49 rfl rfl rfl rfl ?_
 intro S0 σ0 n0 hn0 H
 unfold M.impl_placeIn at h
 refine c_seq (rg (st_ex (ex_box (cs := [(I Hn)]) H hn0 rfl rfl) wn ?_))
 rintro _ σ2 ⟨b1, rfl, H, -⟩
 refine sa (I 0) rfl (w_end (q_then (c_seq (rg (sm (Sl Ax Aw Ay) rfl (st (v := (.func (.func 100) #[] #[(pt b1 0)])) (rv_makeFunc (vs := [(pt b1 0)]) rfl) ?_))))))
 revert h; refine br fun r3 hx4 h => ?_
 have hc5 := c_slices_IndexFunc_impl_Hit_impl_Hit__impl_placeIn_1 (Cq := Ax) (Cr := Ay) (Hi := n0) (Hj := b1) (Hk := 0) (Hl := []) (Hm := []) hx4
 refine st_call (cx_call hc5 (ent_f hc5.fn rfl) hn0 (H.sel' [1, 0, 1] rfl rfl : Hp S0 σ0 _ ([_, _] ++ _))) wn ?_
 rintro _ σ6 ⟨_, ⟨rfl, rfl⟩, H, -⟩
 replace H : Hp _ _ _ [_, _] := H
 refine sa (I r3) rfl (w_end (q_then (c_ret ?_)))
 obtain rfl := sj h
 exact fin_ret (v := (I r3)) (results_ok Tryz.results49 (res_tmp (v := (I r3)) rfl res_nil) rfl) ⟨rfl, rfl⟩ (H.sel' [] rfl rfl)

theorem c_impl_ValidHits {Aw : List (Int × Int)} {Ax : Option Addr} {Ay : Nat} {r : Bool} (h : M.impl_ValidHits Aw = some r) :
    Cal2 Tryz.prog 16 [(Sl Ax Aw Ay)] [Ch.ro 0 (Sl Ax Aw Ay) Aw] (fun n0 v L => v = (B r) ∧ L = []) := by
 refine cal2 (n := 40) Tryz.func16 rfl rfl rfl rfl ?_
 intro S0 σ0 n0 hn0 H
 unfold M.impl_ValidHits at h
 refine c_seq (rg (sa (B false) rfl (w_end (q_then (c_seq (c_seq (rg (sm (Sl Ax Aw Ay) rfl (st (v := (I (Aw.length : Int))) (rv_len Tryz.underlying27 rfl) (st (v := (B (decide (16 < (Aw.length : Int))))) (rv_gtr (a := (Aw.length : Int)) (b := 16) rfl rfl) (w_end ?_)))))))))))
 refine q_then ?_
 refine cd_cond (decide (16 < (Aw.length : Int))) rfl (fun hb1 => ?_) (fun hb1 => ?_)
 ·replace h := bif_t hb1 h
  refine c_seq (rg (sa (B false) rfl (w_end (q_then (c_ret (q_then_r ?_))))))
  obtain rfl := sj h
  exact fin_ret (v := (B false)) (results_ok Tryz.results16 (res_tmp (v := (B false)) rfl res_nil) rfl) ⟨rfl, rfl⟩ (H.sel' [] rfl rfl)
 ·replace h := bif_f hb1 h
  refine c_skip (q_then (c_seq (c_seq (rg (sm (Sl Ax Aw Ay) rfl (st (v := (I (Aw.length : Int))) (rv_len Tryz.underlying27 rfl) (sm (I 0) rfl (w_end (q_then ?_)))))))))
  obtain ⟨o2, hj, h'⟩ := bind_some h
  clear h
  refine c_cut (fun e a w => (∃ t, o2 = (.inl t) ∧ e = .normal ∧ ∃ (ρ : Nat → Value) (σ : St), a = fr 40 (updL ρ []) ∧ w = σ.w ∧ Hp S0 σ0 σ []) ∨ (∃ t, o2 = (.inr t) ∧ e = .ret ∧ ∃ (ρ : Nat → Value) (σ : St), a = fr 40 (updL ρ [(2, (B t))]) ∧ w = σ.w ∧ Hp S0 σ0 σ [])) ?_ ?_
  ·clear h'
   rename _ = some o2 => h
   refine c_blk (wp_loopM _ h (fun s3 a w => ∃ (ρ : Nat → Value) (σ : St), a = fr 40 (updL ρ [(0, (Sl Ax Aw Ay)), (8, (Sl Ax Aw Ay)), (9, (I (Aw.length : Int))), (10, (I s3))]) ∧ w = σ.w ∧ Hp S0 σ0 σ [Ch.ro 0 (Sl Ax Aw Ay) Aw]) ⟨_, σ0, fr_join ⟨rfl, rfl, rfl, rfl, trivial⟩, rfl, H.sel' [0] rfl rfl⟩ ?_)
   clear h H
   rintro s3 a w o ⟨ρ, σ4, rfl, rfl, H⟩ h hres
   refine c_seq (rg (st (v := (B (decide (s3 < (Aw.length : Int))))) (rv_lss (a := s3) (b := (Aw.length : Int)) rfl rfl) (w_end (q_then (c_seq ?_)))))
   refine cd_cond (decide (s3 < (Aw.length : Int))) rfl (fun hb5 => ?_) (fun hb5 => ?_)
   ·replace h := bif_t hb5 h
    refine c_skip (q_then (c_seq (c_blk (c_seq (rg (sm (I s3) rfl ?_))))))
    revert h; refine br fun x6 hx7 h => ?_
    obtain ⟨b9, o10, hi8, -⟩ := (H.ro 0 rfl).ix hx7
    refine st (v := (pt b9 o10)) (rv_ix Tryz.underlying27 ti44 rfl rfl hi8) ?_
    obtain ⟨_, ⟨_, _, rfl, rfl, rfl⟩, hl11, hc12⟩ := ((H.ro 0 rfl).at hx7 hi8).cells
    refine st (v := (.agg #[(I x6.1), (I x6.2)])) (rv_load Tryz.underlying44 rfl ti44 rfl hl11 hc12) (st_ex (ex_alloc (cs := [(I 0), (I 0)]) H hn0 ti44 rfl) wn ?_)
    rintro _ σ14 ⟨b13, rfl, H, -⟩
    refine sa (I s3) rfl ?_
    refine st_exS (ex_store_box (k := 0) (cs := [(I 0), (I 0)]) (vs := [(I x6.1), (I x6.2)]) (cs' := [(I x6.1), (I x6.2)]) H (i := 0) rfl ti44 rfl rfl rfl rfl rfl (Nat.le_of_ble_eq_true rfl) (by simp [plain]) rfl) wn ?_
    rintro σ15 ⟨H, -⟩
    refine w_end (q_then (c_seq (c_seq ?_)))
    obtain ⟨o16, hj, h'⟩ := bind_some h
    clear h
    refine c_cut (fun e a w => e = .normal ∧ ∃ (ρ : Nat → Value) (σ : St), a = fr 40 (updL ρ [(0, (Sl Ax Aw Ay)), (3, (I s3)), (4, (pt b13 0)), (8, (Sl Ax Aw Ay)), (9, (I (Aw.length : Int))), (10, (I s3)), (31, (B o16))]) ∧ w = σ.w ∧ Hp S0 σ0 σ [Ch.ro 0 (Sl Ax Aw Ay) Aw, Ch.bx n0 b13 0 [(I x6.1), (I x6.2)] [] []]) ?_ ?_
    ·clear h'
     rename _ = some o16 => h
     have hc17 := H.cells 0 rfl
     revert h; refine br fun r18 hx19 h => ?_
     have hc20 := c_impl_validHit hx19
     rcases Bool.eq_false_or_eq_true (!r18) with hb21 | hb21
     ·replace h := bif_t hb21 h
      have Hs := H
      refine rg2 (σ := σ15) (Nm := Unit) 13 [1] [[false], [true]] [[(0, 0)], [(0, 1)], [(1, 1)], [(1, 1)], [(1, 1)], [(1, 1)], [(1, 1)], [(1, 1)], [(1, 1)], [(1, 1)], [(1, 1)], [(1, 1)], [(1, 1)]] 1 [fun _ => fun σm => Hp S0 σ0 σm [Ch.bx n0 b13 0 [(I x6.1), (I x6.2)] [] [], Ch.ro 0 (Sl Ax Aw Ay) Aw] ∧ Md (cov []) σ15 σm, fun _ => fun σm => Hp S0 σ0 σm [Ch.bx n0 b13 0 [(I x6.1), (I x6.2)] [] [], Ch.ro 0 (Sl Ax Aw Ay) Aw] ∧ Md (cov []) σ15 σm] [fun _ => (.agg #[(I x6.1), (I x6.2)]), fun _ => (B r18), fun _ => (B (!r18)), fun _ => (B (!r18)), fun _ => undef, fun _ => undef, fun _ => undef, fun _ => undef, fun _ => undef, fun _ => undef, fun _ => undef, fun _ => undef, fun _ => undef] () (by kernel_rfl) (by kernel_rfl) ?_ ?_ ?_
      ·intro σm m0
       exact ⟨H.grow (m0.mono fun _ h => h.elim), m0⟩
      ·refine all_cons (by
         refine ⟨?_, ?_⟩
         ·intro _nm ρ σm hJ hoff hdep
          have e4 := look_off (N := 40) (hoff 4 rfl) rfl
          obtain ⟨H, m⟩ := id hJ
          have hc17 := H.cells 0 rfl
          exact dp_v (v := (.agg #[(I x6.1), (I x6.2)])) wn (rv_load (cs := [(I x6.1), (I x6.2)]) Tryz.underlying44 rfl ti44 e4 rfl hc17) rfl hJ
         trivial) ?_
       refine all_cons (by
         refine ⟨?_, ?_⟩
         ·intro _nm ρ σm hJ hoff hdep
          have e15 : look 40 ρ 15 = (.agg #[(I x6.1), (I x6.2)]) := hdep 0 rfl rfl 15 rfl
          obtain ⟨H, m⟩ := id hJ
          refine dp_cx wn (cx_call hc20 (ent_f hc20.fn (by show [look 40 ρ 15] = _; rw [e15])) hn0 (H.sel' [0, 1] rfl rfl : Hp S0 σ0 _ ([] ++ _))) ?_
          rintro _ σq ⟨_, ⟨rfl, rfl⟩, H2, m2⟩
          exact ⟨_, (), rfl, rfl, ⟨H2.sel' [0, 1] rfl rfl, m.comp0 m2⟩, stab [0] (by kernel_rfl) ⟨rfl, trivial⟩⟩
         trivial) ?_
       refine ac rfl (by
         intro k _nm ρ σm hJ hoff hdep
         have e16 := hdep 1 rfl rfl 16 rfl
         exact dp_v (v := (B (!r18))) wn (rv_not e16) rfl hJ) ?_
       refine ac rfl (by
         intro k _nm ρ σm hJ hoff hdep
         have e17 := hdep 2 rfl rfl 17 rfl
         exact dp_v (v := (B (!r18))) wn (rv_move e17) rfl hJ) ?_
       refine ac rfl (by
         intro k _nm ρ σm hJ hoff hdep
         have e18 := hdep 3 rfl rfl 18 rfl
         exact dp_skip (wanted_no rfl (yv_of rfl (e18.trans (congrArg B hb21)))) rfl hJ) ?_
       refine ac rfl (by
         intro k _nm ρ σm hJ hoff hdep
         have e18 := hdep 3 rfl rfl 18 rfl
         exact dp_skip (wanted_no rfl (yv_of rfl (e18.trans (congrArg B hb21)))) rfl hJ) ?_
       refine ac rfl (by
         intro k _nm ρ σm hJ hoff hdep
         have e18 := hdep 3 rfl rfl 18 rfl
         exact dp_skip (wanted_no rfl (yv_of rfl (e18.trans (congrArg B hb21)))) rfl hJ) ?_
       refine ac rfl (by
         intro k _nm ρ σm hJ hoff hdep
         have e21 := hdep 6 rfl rfl 21 rfl
         exact dp_skip (wanted_u rfl (yv_undef rfl e21)) rfl hJ) ?_
       refine ac rfl (by
         intro k _nm ρ σm hJ hoff hdep
         have e21 := hdep 6 rfl rfl 21 rfl
         exact dp_skip (wanted_u rfl (yv_undef rfl e21)) rfl hJ) ?_
       refine ac rfl (by
         intro k _nm ρ σm hJ hoff hdep
         have e21 := hdep 6 rfl rfl 21 rfl
         exact dp_skip (wanted_u rfl (yv_undef rfl e21)) rfl hJ) ?_
       refine ac rfl (by
         intro k _nm ρ σm hJ hoff hdep
         have e21 := hdep 6 rfl rfl 21 rfl
         exact dp_skip (wanted_u rfl (yv_undef rfl e21)) rfl hJ) ?_
       refine ac rfl (by
         intro k _nm ρ σm hJ hoff hdep
         have e21 := hdep 6 rfl rfl 21 rfl
         exact dp_skip (wanted_u rfl (yv_undef rfl e21)) rfl hJ) ?_
       refine ac rfl (by
         intro k _nm ρ σm hJ hoff hdep
         have e21 := hdep 6 rfl rfl 21 rfl
         exact dp_skip (wanted_u rfl (yv_undef rfl e21)) rfl hJ) ?_
       exact all_nil
      ·intro _nm ρ σ22 hJ hoff hrel
       have e0 := look_off (N := 40) (hoff 0 rfl) rfl
       have e3 := look_off (N := 40) (hoff 3 rfl) rfl
       have e4 := look_off (N := 40) (hoff 4 rfl) rfl
       have e8 := look_off (N := 40) (hoff 8 rfl) rfl
       have e9 := look_off (N := 40) (hoff 9 rfl) rfl
       have e10 := look_off (N := 40) (hoff 10 rfl) rfl
       have e18 := hrel 3 rfl 18 rfl
       have e21 := hrel 6 rfl 21 rfl
       have e26 := hrel 11 rfl 26 rfl
       have e27 := hrel 12 rfl 27 rfl
       obtain ⟨H, -⟩ := (show Hp S0 σ0 σ22 [Ch.bx n0 b13 0 [(I x6.1), (I x6.2)] [] [], Ch.ro 0 (Sl Ax Aw Ay) Aw] ∧ Md (cov []) σ15 σ22 from hJ)
       clear hJ Hs
       rw [fr_lookL (L := [(0, (Sl Ax Aw Ay)), (3, (I s3)), (4, (pt b13 0)), (8, (Sl Ax Aw Ay)), (9, (I (Aw.length : Int))), (10, (I s3)), (18, (B (!r18))), (21, undef), (26, undef), (27, undef)]) ⟨e0, e3, e4, e8, e9, e10, e18, e21, e26, e27, trivial⟩]
       clear hoff hrel e0 e3 e4 e8 e9 e10 e18 e21 e26 e27
       refine st_skip_u rfl (st_skip_u rfl (st_skip (congrArg some hb21) (st (v := (B true)) (rv_pick_t (congrArg B hb21) rfl) (w_end ?_))))
       obtain rfl := sj h
       exact ⟨rfl, _, σ22, fr_join ⟨rfl, rfl, rfl, rfl, rfl, rfl, rfl, trivial⟩, rfl, H.sel' [1, 0] rfl rfl⟩
     ·replace h := bif_f hb21 h
      rcases Bool.eq_false_or_eq_true (decide (0 < s3)) with hb23 | hb23
      ·replace h := bif_t hb23 h
       revert h; refine br fun x24 hx25 h => ?_
       obtain ⟨b27, o28, hi26, -⟩ := (H.ro 1 rfl).ix hx25
       obtain ⟨_, ⟨_, _, rfl, rfl, rfl⟩, hl29, hc30⟩ := ((H.ro 1 rfl).at hx25 hi26).cells
       have hc31 := H.cells 0 rfl
       have Hs := H
       refine rg2 (σ := σ15) (Nm := Unit) 13 [1] [[false], [true]] [[(0, 0)], [(0, 1)], [(1, 1)], [(1, 1)], [(1, 1)], [(1, 1)], [(1, 1)], [(1, 1)], [(1, 1)], [(1, 1)], [(1, 1)], [(1, 1)], [(1, 1)]] 1 [fun _ => fun σm => Hp S0 σ0 σm [Ch.bx n0 b13 0 [(I x6.1), (I x6.2)] [] [], Ch.ro 0 (Sl Ax Aw Ay) Aw] ∧ Md (cov []) σ15 σm, fun _ => fun σm => Hp S0 σ0 σm [Ch.bx n0 b13 0 [(I x6.1), (I x6.2)] [] [], Ch.ro 0 (Sl Ax Aw Ay) Aw] ∧ Md (cov []) σ15 σm] [fun _ => (.agg #[(I x6.1), (I x6.2)]), fun _ => (B r18), fun _ => (B (!r18)), fun _ => (B (!r18)), fun _ => (I s3), fun _ => (B (decide (0 < s3))), fun _ => (B (decide (0 < s3))), fun _ => (Sl Ax Aw Ay), fun _ => (I s3), fun _ => (I (w64 (s3 - 1))), fun _ => (pt b27 o28), fun _ => (.agg #[(I x24.1), (I x24.2)]), fun _ => (.agg #[(I x6.1), (I x6.2)])] () (by kernel_rfl) (by kernel_rfl) ?_ ?_ ?_
       ·intro σm m0
        exact ⟨H.grow (m0.mono fun _ h => h.elim), m0⟩
       ·refine all_cons (by
          refine ⟨?_, ?_⟩
          ·intro _nm ρ σm hJ hoff hdep
           have e4 := look_off (N := 40) (hoff 4 rfl) rfl
           obtain ⟨H, m⟩ := id hJ
           have hc17 := H.cells 0 rfl
           exact dp_v (v := (.agg #[(I x6.1), (I x6.2)])) wn (rv_load (cs := [(I x6.1), (I x6.2)]) Tryz.underlying44 rfl ti44 e4 rfl hc17) rfl hJ
          trivial) ?_
        refine all_cons (by
          refine ⟨?_, ?_⟩
          ·intro _nm ρ σm hJ hoff hdep
           have e15 : look 40 ρ 15 = (.agg #[(I x6.1), (I x6.2)]) := hdep 0 rfl rfl 15 rfl
           obtain ⟨H, m⟩ := id hJ
           refine dp_cx wn (cx_call hc20 (ent_f hc20.fn (by show [look 40 ρ 15] = _; rw [e15])) hn0 (H.sel' [0, 1] rfl rfl : Hp S0 σ0 _ ([] ++ _))) ?_
           rintro _ σq ⟨_, ⟨rfl, rfl⟩, H2, m2⟩
           exact ⟨_, (), rfl, rfl, ⟨H2.sel' [0, 1] rfl rfl, m.comp0 m2⟩, stab [0] (by kernel_rfl) ⟨rfl, trivial⟩⟩
          trivial) ?_
        refine ac rfl (by
          intro k _nm ρ σm hJ hoff hdep
          have e16 := hdep 1 rfl rfl 16 rfl
          exact dp_v (v := (B (!r18))) wn (rv_not e16) rfl hJ) ?_
        refine ac rfl (by
          intro k _nm ρ σm hJ hoff hdep
          have e17 := hdep 2 rfl rfl 17 rfl
          exact dp_v (v := (B (!r18))) wn (rv_move e17) rfl hJ) ?_
        refine ac rfl (by
          intro k _nm ρ σm hJ hoff hdep
          have e3 := look_off (N := 40) (hoff 3 rfl) rfl
          have e18 := hdep 3 rfl rfl 18 rfl
          exact dp_v (v := (I s3)) (wanted_yes rfl (yv_of rfl (e18.trans (congrArg B hb21)))) (rv_move e3) rfl hJ) ?_
        refine ac rfl (by
          intro k _nm ρ σm hJ hoff hdep
          have e19 := hdep 4 rfl rfl 19 rfl
          have e18 := hdep 3 rfl rfl 18 rfl
          exact dp_v (v := (B (decide (0 < s3)))) (wanted_yes rfl (yv_of rfl (e18.trans (congrArg B hb21)))) (rv_gtr (a := s3) (b := 0) e19 rfl) rfl hJ) ?_
        refine ac rfl (by
          intro k _nm ρ σm hJ hoff hdep
          have e20 := hdep 5 rfl rfl 20 rfl
          have e18 := hdep 3 rfl rfl 18 rfl
          exact dp_v (v := (B (decide (0 < s3)))) (wanted_yes rfl (yv_of rfl (e18.trans (congrArg B hb21)))) (rv_move e20) rfl hJ) ?_
        refine ac rfl (by
          intro k _nm ρ σm hJ hoff hdep
          have e0 := look_off (N := 40) (hoff 0 rfl) rfl
          have e21 := hdep 6 rfl rfl 21 rfl
          exact dp_v (v := (Sl Ax Aw Ay)) (wanted_yes rfl (yv_of rfl (e21.trans (congrArg B hb23)))) (rv_move e0) rfl hJ) ?_
        refine ac rfl (by
          intro k _nm ρ σm hJ hoff hdep
          have e3 := look_off (N := 40) (hoff 3 rfl) rfl
          have e21 := hdep 6 rfl rfl 21 rfl
          exact dp_v (v := (I s3)) (wanted_yes rfl (yv_of rfl (e21.trans (congrArg B hb23)))) (rv_move e3) rfl hJ) ?_
        refine ac rfl (by
          intro k _nm ρ σm hJ hoff hdep
          have e23 := hdep 8 rfl rfl 23 rfl
          have e21 := hdep 6 rfl rfl 21 rfl
          exact dp_v (v := (I (w64 (s3 - 1)))) (wanted_yes rfl (yv_of rfl (e21.trans (congrArg B hb23)))) (rv_sub (a := s3) (b := 1) e23 rfl) rfl hJ) ?_
        refine ac rfl (by
          intro k _nm ρ σm hJ hoff hdep
          have e22 := hdep 7 rfl rfl 22 rfl
          have e24 := hdep 9 rfl rfl 24 rfl
          have e21 := hdep 6 rfl rfl 21 rfl
          exact dp_v (v := (pt b27 o28)) (wanted_yes rfl (yv_of rfl (e21.trans (congrArg B hb23)))) (rv_ix Tryz.underlying27 ti44 e22 e24 hi26) rfl hJ) ?_
        refine all_cons (by
          refine ⟨?_, ?_⟩
          ·intro _nm ρ σm hJ hoff hdep
           have e25 := hdep 10 rfl rfl 25 rfl
           have e21 := hdep 6 rfl rfl 21 rfl
           obtain ⟨H, m⟩ := id hJ
           replace hc30 := fun j hj => (Hs.ro 1 rfl).hmd hx25 hi26 (k := j) (Nat.lt_of_lt_of_eq hj hl29) (hc30 j hj) m
           exact dp_v (v := (.agg #[(I x24.1), (I x24.2)])) (wanted_yes rfl (yv_of rfl (e21.trans (congrArg B hb23)))) (rv_load Tryz.underlying44 rfl ti44 e25 hl29 hc30) rfl hJ
          trivial) ?_
        refine all_cons (by
          refine ⟨?_, ?_⟩
          ·intro _nm ρ σm hJ hoff hdep
           have e4 := look_off (N := 40) (hoff 4 rfl) rfl
           have e21 := hdep 6 rfl rfl 21 rfl
           obtain ⟨H, m⟩ := id hJ
           have hc31 := H.cells 0 rfl
           exact dp_v (v := (.agg #[(I x6.1), (I x6.2)])) (wanted_yes rfl (yv_of rfl (e21.trans (congrArg B hb23)))) (rv_load (cs := [(I x6.1), (I x6.2)]) Tryz.underlying44 rfl ti44 e4 rfl hc31) rfl hJ
          trivial) ?_
        exact all_nil
       ·intro _nm ρ σ32 hJ hoff hrel
        have e0 := look_off (N := 40) (hoff 0 rfl) rfl
        have e3 := look_off (N := 40) (hoff 3 rfl) rfl
        have e4 := look_off (N := 40) (hoff 4 rfl) rfl
        have e8 := look_off (N := 40) (hoff 8 rfl) rfl
        have e9 := look_off (N := 40) (hoff 9 rfl) rfl
        have e10 := look_off (N := 40) (hoff 10 rfl) rfl
        have e18 := hrel 3 rfl 18 rfl
        have e21 := hrel 6 rfl 21 rfl
        have e26 := hrel 11 rfl 26 rfl
        have e27 := hrel 12 rfl 27 rfl
        obtain ⟨H, -⟩ := (show Hp S0 σ0 σ32 [Ch.bx n0 b13 0 [(I x6.1), (I x6.2)] [] [], Ch.ro 0 (Sl Ax Aw Ay) Aw] ∧ Md (cov []) σ15 σ32 from hJ)
        clear hJ Hs
        rw [fr_lookL (L := [(0, (Sl Ax Aw Ay)), (3, (I s3)), (4, (pt b13 0)), (8, (Sl Ax Aw Ay)), (9, (I (Aw.length : Int))), (10, (I s3)), (18, (B (!r18))), (21, (B (decide (0 < s3)))), (26, (.agg #[(I x24.1), (I x24.2)])), (27, (.agg #[(I x6.1), (I x6.2)]))]) ⟨e0, e3, e4, e8, e9, e10, e18, e21, e26, e27, trivial⟩]
        clear hoff hrel e0 e3 e4 e8 e9 e10 e18 e21 e26 e27
        revert h; refine br fun r33 hx34 h => ?_
        have hc35 := c_impl_compareHits hx34
        refine st_call (cx_call hc35 (ent_f hc35.fn rfl) hn0 (H.sel' [0, 1] rfl rfl : Hp S0 σ0 _ ([] ++ _))) (wanted_yes rfl (by exact (congrArg some hb23))) ?_
        rintro _ σ36 ⟨_, ⟨rfl, rfl⟩, H, -⟩
        replace H : Hp _ _ _ [_, _] := H
        refine st_g (v := (B (decide (0 ≤ r33)))) (congrArg some hb23) (rv_geq (a := r33) (b := 0) rfl rfl) (st_g (v := (B (decide (0 ≤ r33)))) (congrArg some hb21) (rv_pick_t (congrArg B hb23) rfl) (st (v := (B (decide (0 ≤ r33)))) (rv_pick_f (congrArg B hb21) rfl) (w_end ?_)))
        obtain rfl := sj h
        exact ⟨rfl, _, σ36, fr_join ⟨rfl, rfl, rfl, rfl, rfl, rfl, rfl, trivial⟩, rfl, H.sel' [1, 0] rfl rfl⟩
      ·replace h := bif_f hb23 h
       have Hs := H
       refine rg2 (σ := σ15) (Nm := Unit) 13 [1] [[false], [true]] [[(0, 0)], [(0, 1)], [(1, 1)], [(1, 1)], [(1, 1)], [(1, 1)], [(1, 1)], [(1, 1)], [(1, 1)], [(1, 1)], [(1, 1)], [(1, 1)], [(1, 1)]] 1 [fun _ => fun σm => Hp S0 σ0 σm [Ch.bx n0 b13 0 [(I x6.1), (I x6.2)] [] [], Ch.ro 0 (Sl Ax Aw Ay) Aw] ∧ Md (cov []) σ15 σm, fun _ => fun σm => Hp S0 σ0 σm [Ch.bx n0 b13 0 [(I x6.1), (I x6.2)] [] [], Ch.ro 0 (Sl Ax Aw Ay) Aw] ∧ Md (cov []) σ15 σm] [fun _ => (.agg #[(I x6.1), (I x6.2)]), fun _ => (B r18), fun _ => (B (!r18)), fun _ => (B (!r18)), fun _ => (I s3), fun _ => (B (decide (0 < s3))), fun _ => (B (decide (0 < s3))), fun _ => undef, fun _ => undef, fun _ => undef, fun _ => undef, fun _ => undef, fun _ => undef] () (by kernel_rfl) (by kernel_rfl) ?_ ?_ ?_
       ·intro σm m0
        exact ⟨H.grow (m0.mono fun _ h => h.elim), m0⟩
       ·refine all_cons (by
          refine ⟨?_, ?_⟩
          ·intro _nm ρ σm hJ hoff hdep
           have e4 := look_off (N := 40) (hoff 4 rfl) rfl
           obtain ⟨H, m⟩ := id hJ
           have hc17 := H.cells 0 rfl
           exact dp_v (v := (.agg #[(I x6.1), (I x6.2)])) wn (rv_load (cs := [(I x6.1), (I x6.2)]) Tryz.underlying44 rfl ti44 e4 rfl hc17) rfl hJ
          trivial) ?_
        refine all_cons (by
          refine ⟨?_, ?_⟩
          ·intro _nm ρ σm hJ hoff hdep
           have e15 : look 40 ρ 15 = (.agg #[(I x6.1), (I x6.2)]) := hdep 0 rfl rfl 15 rfl
           obtain ⟨H, m⟩ := id hJ
           refine dp_cx wn (cx_call hc20 (ent_f hc20.fn (by show [look 40 ρ 15] = _; rw [e15])) hn0 (H.sel' [0, 1] rfl rfl : Hp S0 σ0 _ ([] ++ _))) ?_
           rintro _ σq ⟨_, ⟨rfl, rfl⟩, H2, m2⟩
           exact ⟨_, (), rfl, rfl, ⟨H2.sel' [0, 1] rfl rfl, m.comp0 m2⟩, stab [0] (by kernel_rfl) ⟨rfl, trivial⟩⟩
          trivial) ?_
        refine ac rfl (by
          intro k _nm ρ σm hJ hoff hdep
          have e16 := hdep 1 rfl rfl 16 rfl
          exact dp_v (v := (B (!r18))) wn (rv_not e16) rfl hJ) ?_
        refine ac rfl (by
          intro k _nm ρ σm hJ hoff hdep
          have e17 := hdep 2 rfl rfl 17 rfl
          exact dp_v (v := (B (!r18))) wn (rv_move e17) rfl hJ) ?_
        refine ac rfl (by
          intro k _nm ρ σm hJ hoff hdep
          have e3 := look_off (N := 40) (hoff 3 rfl) rfl
          have e18 := hdep 3 rfl rfl 18 rfl
          exact dp_v (v := (I s3)) (wanted_yes rfl (yv_of rfl (e18.trans (congrArg B hb21)))) (rv_move e3) rfl hJ) ?_
        refine ac rfl (by
          intro k _nm ρ σm hJ hoff hdep
          have e19 := hdep 4 rfl rfl 19 rfl
          have e18 := hdep 3 rfl rfl 18 rfl
          exact dp_v (v := (B (decide (0 < s3)))) (wanted_yes rfl (yv_of rfl (e18.trans (congrArg B hb21)))) (rv_gtr (a := s3) (b := 0) e19 rfl) rfl hJ) ?_
        refine ac rfl (by
          intro k _nm ρ σm hJ hoff hdep
          have e20 := hdep 5 rfl rfl 20 rfl
          have e18 := hdep 3 rfl rfl 18 rfl
          exact dp_v (v := (B (decide (0 < s3)))) (wanted_yes rfl (yv_of rfl (e18.trans (congrArg B hb21)))) (rv_move e20) rfl hJ) ?_
        refine ac rfl (by
          intro k _nm ρ σm hJ hoff hdep
          have e21 := hdep 6 rfl rfl 21 rfl
          exact dp_skip (wanted_no rfl (yv_of rfl (e21.trans (congrArg B hb23)))) rfl hJ) ?_
        refine ac rfl (by
          intro k _nm ρ σm hJ hoff hdep
          have e21 := hdep 6 rfl rfl 21 rfl
          exact dp_skip (wanted_no rfl (yv_of rfl (e21.trans (congrArg B hb23)))) rfl hJ) ?_
        refine ac rfl (by
          intro k _nm ρ σm hJ hoff hdep
          have e21 := hdep 6 rfl rfl 21 rfl
          exact dp_skip (wanted_no rfl (yv_of rfl (e21.trans (congrArg B hb23)))) rfl hJ) ?_
        refine ac rfl (by
          intro k _nm ρ σm hJ hoff hdep
          have e21 := hdep 6 rfl rfl 21 rfl
          exact dp_skip (wanted_no rfl (yv_of rfl (e21.trans (congrArg B hb23)))) rfl hJ) ?_
        refine ac rfl (by
          intro k _nm ρ σm hJ hoff hdep
          have e21 := hdep 6 rfl rfl 21 rfl
          exact dp_skip (wanted_no rfl (yv_of rfl (e21.trans (congrArg B hb23)))) rfl hJ) ?_
        refine ac rfl (by
          intro k _nm ρ σm hJ hoff hdep
          have e21 := hdep 6 rfl rfl 21 rfl
          exact dp_skip (wanted_no rfl (yv_of rfl (e21.trans (congrArg B hb23)))) rfl hJ) ?_
        exact all_nil
       ·intro _nm ρ σ37 hJ hoff hrel
        have e0 := look_off (N := 40) (hoff 0 rfl) rfl
        have e3 := look_off (N := 40) (hoff 3 rfl) rfl
        have e4 := look_off (N := 40) (hoff 4 rfl) rfl
        have e8 := look_off (N := 40) (hoff 8 rfl) rfl
        have e9 := look_off (N := 40) (hoff 9 rfl) rfl
        have e10 := look_off (N := 40) (hoff 10 rfl) rfl
        have e18 := hrel 3 rfl 18 rfl
        have e21 := hrel 6 rfl 21 rfl
        have e26 := hrel 11 rfl 26 rfl
        have e27 := hrel 12 rfl 27 rfl
        obtain ⟨H, -⟩ := (show Hp S0 σ0 σ37 [Ch.bx n0 b13 0 [(I x6.1), (I x6.2)] [] [], Ch.ro 0 (Sl Ax Aw Ay) Aw] ∧ Md (cov []) σ15 σ37 from hJ)
        clear hJ Hs
        rw [fr_lookL (L := [(0, (Sl Ax Aw Ay)), (3, (I s3)), (4, (pt b13 0)), (8, (Sl Ax Aw Ay)), (9, (I (Aw.length : Int))), (10, (I s3)), (18, (B (!r18))), (21, (B (decide (0 < s3)))), (26, undef), (27, undef)]) ⟨e0, e3, e4, e8, e9, e10, e18, e21, e26, e27, trivial⟩]
        clear hoff hrel e0 e3 e4 e8 e9 e10 e18 e21 e26 e27
        refine st_skip (congrArg some hb23) (st_skip (congrArg some hb23) (st_g (v := (B false)) (congrArg some hb21) (rv_pick_f (congrArg B hb23) rfl) (st (v := (B false)) (rv_pick_f (congrArg B hb21) rfl) (w_end ?_))))
        obtain rfl := sj h
        exact ⟨rfl, _, σ37, fr_join ⟨rfl, rfl, rfl, rfl, rfl, rfl, rfl, trivial⟩, rfl, H.sel' [1, 0] rfl rfl⟩
    ·clear hj
     have h := h'
     clear h' H
     rintro e a w ⟨rfl, ρ, σ38, rfl, rfl, H⟩
     refine q_then ?_
     refine cd_cond o16 rfl (fun hb39 => ?_) (fun hb39 => ?_)
     ·replace h := bif_t hb39 h
      refine c_seq (rg (sa (B false) rfl (w_end (q_then (c_ret (q_then_r (q_blk_r (q_then_r (q_then_r (q_blk_r ?_))))))))))
      obtain rfl := sj h
      obtain rfl := hres _ rfl
      exact .inr (⟨_, rfl, rfl, _, σ38, fr_join ⟨rfl, trivial⟩, rfl, H.sel' [] rfl rfl⟩)
     ·replace h := bif_f hb39 h
      refine c_skip (q_then (c_seq ?_))
      refine rgP (σ := σ38) 5 (by kernel_rfl) (by kernel_rfl) (by kernel_rfl) ?_
      refine sq (v := (Sl Ax Aw Ay)) (rv_move rfl) (sq (v := (I s3)) (rv_move rfl) ?_)
      revert h; refine br fun xs40 hx41 h => ?_
      obtain ⟨a42, c43, hs44, hR45⟩ := (H.ro 0 rfl).slice hx41
      replace H := H.add (d := Ch.ro 0 (Sl a42 xs40 c43) xs40) hR45 (fun _ h => h)
      clear hR45
      refine sq (v := (Sl a42 xs40 c43)) (rv_slice_h Tryz.underlying27 ti44 hs44 rfl rfl) (sq (v := (pt b13 0)) (rv_fieldAddr (off := 0) (ft := 3) Tryz.underlying44 rfl ti3 rfl rfl) ?_)
      have hc46 := H.cell (u := (I x6.1)) (o' := 0) 2 0 rfl rfl rfl
      refine sq (v := (I x6.1)) (rv_load1 Tryz.underlying3 rfl rfl hc46) (sq_end ?_)
      intro σ47 hm48
      replace H := H.grow (hm48.mono fun _ h => h); clear hm48
      revert h; refine br fun r49 hx50 h => ?_
      have hc51 := c_impl_placeIn (Ax := a42) (Ay := c43) hx50
      refine st_call (cx_call hc51 (ent_f hc51.fn rfl) hn0 (H.sel' [0, 0, 1, 2] rfl rfl : Hp S0 σ0 _ ([_] ++ _))) wn ?_
      rintro _ σ52 ⟨_, ⟨rfl, rfl⟩, H, -⟩
      replace H : Hp _ _ _ [_, _, _] := H
      refine st (v := (B (decide (0 ≤ r49)))) (rv_geq (a := r49) (b := 0) rfl rfl) (w_end (q_then ?_))
      refine cd_cond (decide (0 ≤ r49)) rfl (fun hb53 => ?_) (fun hb53 => ?_)
      ·replace h := bif_t hb53 h
       refine c_seq (rg (sa (B false) rfl (w_end (q_then (c_ret (q_blk_r (q_then_r (q_then_r (q_blk_r ?_)))))))))
       obtain rfl := sj h
       obtain rfl := hres _ rfl
       exact .inr (⟨_, rfl, rfl, _, σ52, fr_join ⟨rfl, trivial⟩, rfl, H.sel' [] rfl rfl⟩)
      ·replace h := bif_f hb53 h
       refine c_skip (q_blk (q_then (rg (st (v := (I (w64 (s3 + 1)))) (rv_add (a := s3) (b := 1) rfl rfl) (sm (I (w64 (s3 + 1))) rfl (w_end (q_then ?_)))))))
       obtain rfl := sj h
       exact ⟨_, rfl, _, σ52, fr_join ⟨rfl, rfl, rfl, rfl, trivial⟩, rfl, H.sel' [1] rfl rfl⟩
   ·replace h := bif_f hb5 h
    refine c_exit (q_then_x (q_then_x (q_blk_hit ?_)))
    obtain rfl := sj h
    obtain rfl := hres _ rfl
    exact .inl ⟨_, rfl, rfl, _, σ4, fr_join trivial, rfl, H.sel' [] rfl rfl⟩
  ·clear hj
   have h := h'
   clear h' H
   rintro e a w (⟨t54, rfl, rfl, ρ, σ55, rfl, rfl, H⟩ | ⟨t56, rfl, rfl, ρ, σ57, rfl, rfl, H⟩)
   ·replace h := selim_l h
    refine q_then (c_seq (rg (sa (B true) rfl (w_end (q_then (c_ret ?_))))))
    obtain rfl := sj h
    exact fin_ret (v := (B true)) (results_ok Tryz.results16 (res_tmp (v := (B true)) rfl res_nil) rfl) ⟨rfl, rfl⟩ (H.sel' [] rfl rfl)
   ·replace h := selim_r h
    refine q_then_r ?_
    obtain rfl := sj h
    exact fin_ret (v := (B t56)) (results_ok Tryz.results16 (res_tmp (v := (B t56)) rfl res_nil) rfl) ⟨rfl, rfl⟩ (H.sel' [] rfl rfl)

theorem c_impl_RecallOf {Ho : List (Int × Int)} {Hq : List (Int × Int)} {Hr : Option Addr} {Ht : Nat} {Hu : Option Addr} {Hv : Nat} {r : Int} (h : M.impl_RecallOf Ho Hq = some r) :
    Cal2 Tryz.prog 34 [(Sl Hr Ho Ht), (Sl Hu Hq Hv)] [Ch.ro 0 (Sl Hr Ho Ht) Ho, Ch.ro 0 (Sl Hu Hq Hv) Hq] (fun n0 v L => v = (I r) ∧ L = []) := by
 refine cal2 (n := 40) Tryz.func34 rfl rfl rfl rfl ?_
 intro S0 σ0 n0 hn0 H
 unfold M.impl_RecallOf at h
 refine c_seq (rg (sa (I 0) rfl (w_end (q_then (c_seq (c_seq ?_))))))
 obtain ⟨o1, hj, h'⟩ := bind_some h
 clear h
 refine c_cut (fun e a w => e = .normal ∧ ∃ (ρ : Nat → Value) (σ : St), a = fr 40 (updL ρ [(0, (Sl Hr Ho Ht)), (1, (Sl Hu Hq Hv)), (20, (B o1))]) ∧ w = σ.w ∧ Hp S0 σ0 σ [Ch.ro 0 (Sl Hr Ho Ht) Ho, Ch.ro 0 (Sl Hu Hq Hv) Hq]) ?_ ?_
 ·clear h'
  rename _ = some o1 => h
  refine rg (sm (Sl Hr Ho Ht) rfl ?_)
  revert h; refine br fun r2 hx3 h => ?_
  have hc4 := c_impl_ValidHits (Ax := Hr) (Ay := Ht) hx3
  refine st_call (cx_call hc4 (ent_f hc4.fn rfl) hn0 (H.sel' [0, 0, 1] rfl rfl : Hp S0 σ0 _ ([_] ++ _))) wn ?_
  rintro _ σ5 ⟨_, ⟨rfl, rfl⟩, H, -⟩
  replace H : Hp _ _ _ [_, _] := H
  refine st (v := (B (!r2))) (rv_not rfl) (sm (B (!r2)) rfl ?_)
  rcases Bool.eq_false_or_eq_true (!r2) with hb6 | hb6
  ·replace h := bif_t hb6 h
   refine st_skip (congrArg some hb6) (st_skip (congrArg some hb6) (st_skip (congrArg some hb6) (st (v := (B true)) (rv_pick_t (congrArg B hb6) rfl) (sm (B true) rfl (st_skip rfl (st_skip rfl (st_skip rfl (st (v := (B true)) (rv_pick_t rfl rfl) (w_end ?_)))))))))
   obtain rfl := sj h
   exact ⟨rfl, _, σ5, fr_join ⟨rfl, rfl, rfl, trivial⟩, rfl, H.sel' [0, 1] rfl rfl⟩
  ·replace h := bif_f hb6 h
   refine st_g (v := (Sl Hu Hq Hv)) (congrArg some hb6) (rv_move rfl) ?_
   revert h; refine br fun r7 hx8 h => ?_
   have hc9 := c_impl_ValidHits (Ax := Hu) (Ay := Hv) hx8
   refine st_call (cx_call hc9 (ent_f hc9.fn rfl) hn0 (H.sel' [1, 0, 1] rfl rfl : Hp S0 σ0 _ ([_] ++ _))) (wanted_yes rfl (by exact (congrArg some hb6))) ?_
   rintro _ σ10 ⟨_, ⟨rfl, rfl⟩, H, -⟩
   replace H : Hp _ _ _ [_, _] := H
   refine st_g (v := (B (!r7))) (congrArg some hb6) (rv_not rfl) (st (v := (B (!r7))) (rv_pick_f (congrArg B hb6) rfl) (sm (B (!r7)) rfl ?_))
   rcases Bool.eq_false_or_eq_true (!r7) with hb11 | hb11
   ·replace h := bif_t hb11 h
    refine st_skip (congrArg some hb11) (st_skip (congrArg some hb11) (st_skip (congrArg some hb11) (st (v := (B true)) (rv_pick_t (congrArg B hb11) rfl) (w_end ?_))))
    obtain rfl := sj h
    exact ⟨rfl, _, σ10, fr_join ⟨rfl, rfl, rfl, trivial⟩, rfl, H.sel' [0, 1] rfl rfl⟩
   ·replace h := bif_f hb11 h
    refine st_g (v := (Sl Hr Ho Ht)) (congrArg some hb11) (rv_move rfl) (st_g (v := (I (Ho.length : Int))) (congrArg some hb11) (rv_len Tryz.underlying27 rfl) (st_g (v := (B ((Ho.length : Int) == 0))) (congrArg some hb11) (rv_eql (a := (Ho.length : Int)) (b := 0) rfl rfl) (st (v := (B ((Ho.length : Int) == 0))) (rv_pick_f (congrArg B hb11) rfl) (w_end ?_))))
    obtain rfl := sj h
    exact ⟨rfl, _, σ10, fr_join ⟨rfl, rfl, rfl, trivial⟩, rfl, H.sel' [0, 1] rfl rfl⟩
 ·clear hj
  have h := h'
  clear h' H
  rintro e a w ⟨rfl, ρ, σ12, rfl, rfl, H⟩
  refine q_then ?_
  refine cd_cond o1 rfl (fun hb13 => ?_) (fun hb13 => ?_)
  ·replace h := bif_t hb13 h
   refine c_seq (rg (sa (I (-1)) rfl (w_end (q_then (c_ret (q_then_r ?_))))))
   obtain rfl := sj h
   exact fin_ret (v := (I (-1))) (results_ok Tryz.results34 (res_tmp (v := (I (-1))) rfl res_nil) rfl) ⟨rfl, rfl⟩ (H.sel' [] rfl rfl)
  ·replace h := bif_f hb13 h
   refine c_skip (q_then (c_seq (rg (sa (I 0) rfl (w_end (q_then (c_seq (c_seq (rg (sm (Sl Hr Ho Ht) rfl (st (v := (I (Ho.length : Int))) (rv_len Tryz.underlying27 rfl) ?_)))))))))))
   refine sm (I 0) rfl (w_end (q_then ?_))
   obtain ⟨o14, hj, h'⟩ := bind_some h
   clear h
   refine c_cut (fun e a w => e = .normal ∧ ∃ (ρ : Nat → Value) (σ : St), a = fr 40 (updL ρ [(0, (Sl Hr Ho Ht)), (5, (I o14))]) ∧ w = σ.w ∧ Hp S0 σ0 σ [Ch.ro 0 (Sl Hr Ho Ht) Ho]) ?_ ?_
   ·clear h'
    rename _ = some o14 => h
    refine c_blk (wp_loopM _ h (fun s15 a w => ∃ (ρ : Nat → Value) (σ : St), a = fr 40 (updL ρ [(0, (Sl Hr Ho Ht)), (1, (Sl Hu Hq Hv)), (5, (I s15.1)), (21, (Sl Hr Ho Ht)), (22, (I (Ho.length : Int))), (23, (I s15.2))]) ∧ w = σ.w ∧ Hp S0 σ0 σ [Ch.ro 0 (Sl Hr Ho Ht) Ho, Ch.ro 0 (Sl Hu Hq Hv) Hq]) ⟨_, σ12, fr_join ⟨rfl, rfl, rfl, rfl, rfl, rfl, trivial⟩, rfl, H.sel' [0, 1] rfl rfl⟩ ?_)
    clear h H
    rintro s15 a w o ⟨ρ, σ16, rfl, rfl, H⟩ h hres
    refine c_seq (rg (st (v := (B (decide (s15.2 < (Ho.length : Int))))) (rv_lss (a := s15.2) (b := (Ho.length : Int)) rfl rfl) (w_end (q_then (c_seq ?_)))))
    refine cd_cond (decide (s15.2 < (Ho.length : Int))) rfl (fun hb17 => ?_) (fun hb17 => ?_)
    ·replace h := bif_t hb17 h
     refine c_skip (q_then (c_seq ?_))
     obtain ⟨o18, hj, h'⟩ := bind_some h
     clear h
     refine c_cut (fun e a w => e = .normal ∧ ∃ (ρ : Nat → Value) (σ : St), a = fr 40 (updL ρ [(0, (Sl Hr Ho Ht)), (1, (Sl Hu Hq Hv)), (5, (I o18)), (21, (Sl Hr Ho Ht)), (22, (I (Ho.length : Int))), (23, (I s15.2))]) ∧ w = σ.w ∧ Hp S0 σ0 σ [Ch.ro 0 (Sl Hr Ho Ht) Ho, Ch.ro 0 (Sl Hu Hq Hv) Hq]) ?_ ?_
     ·clear h'
      rename _ = some o18 => h
      refine c_blk (c_seq (rg ?_))
      revert h; refine br fun x19 hx20 h => ?_
      obtain ⟨b22, o23, hi21, -⟩ := (H.ro 0 rfl).ix hx20
      refine st (v := (pt b22 o23)) (rv_ix Tryz.underlying27 ti44 rfl rfl hi21) ?_
      obtain ⟨_, ⟨_, _, rfl, rfl, rfl⟩, hl24, hc25⟩ := ((H.ro 0 rfl).at hx20 hi21).cells
      refine st (v := (.agg #[(I x19.1), (I x19.2)])) (rv_load Tryz.underlying44 rfl ti44 rfl hl24 hc25) (st_ex (ex_alloc (cs := [(I 0), (I 0)]) H hn0 ti44 rfl) wn ?_)
      rintro _ σ27 ⟨b26, rfl, H, -⟩
      refine st_exS (ex_store_box (k := 0) (cs := [(I 0), (I 0)]) (vs := [(I x19.1), (I x19.2)]) (cs' := [(I x19.1), (I x19.2)]) H (i := 0) rfl ti44 rfl rfl rfl rfl rfl (Nat.le_of_ble_eq_true rfl) (by simp [plain]) rfl) wn ?_
      rintro σ28 ⟨H, -⟩
      refine w_end (q_then (c_seq (rg (sm (Sl Hu Hq Hv) rfl (st (v := (pt b26 0)) (rv_fieldAddr (off := 0) (ft := 3) Tryz.underlying44 rfl ti3 rfl rfl) ?_)))))
      have hc29 := H.cell (u := (I x19.1)) (o' := 0) 0 0 rfl rfl rfl
      refine st (v := (I x19.1)) (rv_load1 Tryz.underlying3 rfl rfl hc29) ?_
      revert h; refine br fun r30 hx31 h => ?_
      have hc32 := c_impl_placeIn (Ax := Hu) (Ay := Hv) hx31
      refine st_call (cx_call hc32 (ent_f hc32.fn rfl) hn0 (H.sel' [2, 0, 1, 2] rfl rfl : Hp S0 σ0 _ ([_] ++ _))) wn ?_
      rintro _ σ33 ⟨_, ⟨rfl, rfl⟩, H, -⟩
      replace H : Hp _ _ _ [_, _, _] := H
      refine st (v := (B (decide (0 ≤ r30)))) (rv_geq (a := r30) (b := 0) rfl rfl) (w_end (q_then ?_))
      refine cd_cond (decide (0 ≤ r30)) rfl (fun hb34 => ?_) (fun hb34 => ?_)
      ·replace h := bif_t hb34 h
       refine rg (sm (I s15.1) rfl (st (v := (I (w64 (s15.1 + 1)))) (rv_add (a := s15.1) (b := 1) rfl rfl) (sa (I (w64 (s15.1 + 1))) rfl (w_end (q_blk ?_)))))
       obtain rfl := sj h
       exact ⟨rfl, _, σ33, fr_join ⟨rfl, rfl, rfl, rfl, rfl, rfl, trivial⟩, rfl, H.sel' [1, 2] rfl rfl⟩
      ·replace h := bif_f hb34 h
       refine c_skip (q_blk ?_)
       obtain rfl := sj h
       exact ⟨rfl, _, σ33, fr_join ⟨rfl, rfl, rfl, rfl, rfl, rfl, trivial⟩, rfl, H.sel' [1, 2] rfl rfl⟩
     ·clear hj
      have h := h'
      clear h' H
      rintro e a w ⟨rfl, ρ, σ35, rfl, rfl, H⟩
      refine q_then (rg (st (v := (I (w64 (s15.2 + 1)))) (rv_add (a := s15.2) (b := 1) rfl rfl) (sm (I (w64 (s15.2 + 1))) rfl (w_end (q_then ?_)))))
      obtain rfl := sj h
      exact ⟨_, rfl, _, σ35, fr_join ⟨rfl, rfl, rfl, rfl, rfl, rfl, trivial⟩, rfl, H.sel' [0, 1] rfl rfl⟩
    ·replace h := bif_f hb17 h
     refine c_exit (q_then_x (q_then_x (q_blk_hit ?_)))
     obtain rfl := sj h
     obtain rfl := hres _ rfl
     exact ⟨rfl, _, σ16, fr_join ⟨rfl, rfl, trivial⟩, rfl, H.sel' [0] rfl rfl⟩
   ·clear hj
    have h := h'
    clear h' H
    rintro e a w ⟨rfl, ρ, σ36, rfl, rfl, H⟩
    refine q_then (c_seq (rg (sm (I o14) rfl (st (v := (I (w64 (o14 * 1000)))) (rv_mul (a := o14) (b := 1000) rfl rfl) (sm (Sl Hr Ho Ht) rfl (st (v := (I (Ho.length : Int))) (rv_len Tryz.underlying27 rfl) ?_))))))
    revert h; refine br fun q37 hx38 h => ?_
    refine st (v := (I q37)) (rv_quoG (a := (w64 (o14 * 1000))) (b := (Ho.length : Int)) hx38 rfl rfl) (sa (I q37) rfl (w_end (q_then (c_ret ?_))))
    obtain rfl := sj h
    exact fin_ret (v := (I q37)) (results_ok Tryz.results34 (res_tmp (v := (I q37)) rfl res_nil) rfl) ⟨rfl, rfl⟩ (H.sel' [] rfl rfl)

theorem c_laws_FnHashNearestRecall {Fd : List UInt8} {Fe : Option Addr} {Ff : Nat} {r : Bool} (h : M.laws_FnHashNearestRecall Fd = some r) :
    Cal2 Tryz.prog 7 [(Sl Fe Fd Ff)] [Ch.ro 0 (Sl Fe Fd Ff) Fd] (fun n0 v L => v = (B r) ∧ L = []) := by
 refine cal2 (n := 72) Tryz.func7 rfl rfl rfl rfl ?_
 intro S0 σ0 n0 hn0 H
 unfold M.laws_FnHashNearestRecall at h
 refine c_seq (rg (sa (B false) rfl (w_end (q_then (c_seq (c_seq (rg (sm (Sl Fe Fd Ff) rfl (st (v := (I (Fd.length : Int))) (rv_len Tryz.underlying22 rfl) (st (v := (B (decide (1048576 < (Fd.length : Int))))) (rv_gtr (a := (Fd.length : Int)) (b := 1048576) rfl rfl) (w_end ?_)))))))))))
 refine q_then ?_
 refine cd_cond (decide (1048576 < (Fd.length : Int))) rfl (fun hb1 => ?_) (fun hb1 => ?_)
 ·replace h := bif_t hb1 h
  refine c_seq (rg (sa (B true) rfl (w_end (q_then (c_ret (q_then_r ?_))))))
  obtain rfl := sj h
  exact fin_ret (v := (B true)) (results_ok Tryz.results7 (res_tmp (v := (B true)) rfl res_nil) rfl) ⟨rfl, rfl⟩ (H.sel' [] rfl rfl)
 ·replace h := bif_f hb1 h
  refine c_skip (q_then (c_seq (rg (sm (Sl Fe Fd Ff) rfl ?_))))
  revert h; refine br fun r2 hx3 h => ?_
  have hc4 := c_spec_DrawHashNearest (Fe := Fe) (Ff := Ff) hx3
  refine st_call (cx_call hc4 (ent_f hc4.fn rfl) hn0 (H.sel' [0, 0] rfl rfl : Hp S0 σ0 _ ([_] ++ _))) wn ?_
  rintro _ σ11 ⟨_, ⟨a5, c6, a7, c8, a9, c10, rfl, rfl⟩, H, -⟩
  replace H : Hp _ _ _ [_, _, _, _] := H
  refine sm (.tuple #[(Sl a5 r2.1 c6), (Sl a7 r2.2.1 c8), (Sl a9 r2.2.2.1 c10), (I r2.2.2.2.1), (I r2.2.2.2.2)]) rfl (st (v := (Sl a5 r2.1 c6)) (rv_extract rfl rfl) (st (v := (Sl a7 r2.2.1 c8)) (rv_extract rfl rfl) (st (v := (Sl a9 r2.2.2.1 c10)) (rv_extract rfl rfl) (st (v := (I r2.2.2.2.1)) (rv_extract rfl rfl) (st (v := (I r2.2.2.2.2)) (rv_extract rfl rfl) (sa (Sl a5 r2.1 c6) rfl (sa (Sl a7 r2.2.1 c8) rfl (sa (Sl a9 r2.2.2.1 c10) rfl (sa (I r2.2.2.2.1) rfl (sa (I r2.2.2.2.2) rfl (w_end ?_)))))))))))
  refine q_then (c_seq (rg (sm (Sl a5 r2.1 c6) rfl (sm (Sl a7 r2.2.1 c8) rfl (sm (Sl a9 r2.2.2.1 c10) rfl (sm (I r2.2.2.2.1) rfl (sm (I r2.2.2.2.2) rfl ?_)))))))
  revert h; refine br fun r12 hx13 h => ?_
  have hc14 := c_impl_HashNearest (Ft := a5) (Fu := c6) (Fk := a7) (Fl := c8) (Bd := a9) (Be := c10) hx13
  have hle := Nat.le_trans hn0 H.size
  refine st_call (cx_lend (Loan.lend (Loan.lend (Loan.lend Loan.nil))) hc14 (ent_f hc14.fn rfl) (show Hp S0 σ0 _ ([Ch.own n0 n0 (Sl a5 r2.1 c6) r2.1, Ch.own n0 n0 (Sl a7 r2.2.1 c8) r2.2.1, Ch.own n0 n0 (Sl a9 r2.2.2.1 c10) r2.2.2.1] ++ ([] ++ [Ch.ro 0 (Sl Fe Fd Ff) Fd])) from (H.sel' [0, 1, 2, 3] rfl rfl)) (by rintro _ _ _ ⟨_, _, rfl, rfl⟩; exact ⟨Ab.ownSc, trivial⟩)) wn ?_
  rintro _ σ17 ⟨_, ⟨a15, c16, rfl, rfl⟩, H, -, -⟩
  replace H : Hp _ _ _ [_, _, _, _, _] := H
  replace H := H.ownLow 0 0 n0 rfl (Nat.le_refl _) hle
  clear hle
  replace H : Hp _ _ _ [_, _, _, _, _] := H
  refine sa (Sl a15 r12 c16) rfl (w_end (q_then (c_seq (c_seq ?_))))
  obtain ⟨o18, hj, h'⟩ := bind_some h
  clear h
  refine c_cut (fun e a w => e = .normal ∧ ∃ (ρ : Nat → Value) (σ : St), a = fr 72 (updL ρ [(3, (Sl a5 r2.1 c6)), (4, (Sl a7 r2.2.1 c8)), (5, (Sl a9 r2.2.2.1 c10)), (6, (I r2.2.2.2.1)), (7, (I r2.2.2.2.2)), (8, (Sl a15 r12 c16)), (45, (B o18))]) ∧ w = σ.w ∧ Hp S0 σ0 σ [Ch.own n0 n0 (Sl a5 r2.1 c6) r2.1, Ch.own n0 n0 (Sl a7 r2.2.1 c8) r2.2.1, Ch.own n0 n0 (Sl a9 r2.2.2.1 c10) r2.2.2.1, Ch.own 0 n0 (Sl a15 r12 c16) r12]) ?_ ?_
  ·clear h'
   rename _ = some o18 => h
   refine rg (sm (Sl a15 r12 c16) rfl (sm (Sl a5 r2.1 c6) rfl (sm (Sl a7 r2.2.1 c8) rfl (sm (Sl a9 r2.2.2.1 c10) rfl (sm (I r2.2.2.2.1) rfl (sm (I r2.2.2.2.2) rfl ?_))))))
   revert h; refine br fun r19 hx20 h => ?_
   have hc21 := c_spec_HashNearest (Ft := a5) (Fu := c6) (Fk := a7) (Fl := c8) (Bd := a9) (Be := c10) hx20
   have hle := Nat.le_trans hn0 H.size
   refine st_call (cx_lend (Loan.lend (Loan.lend (Loan.lend Loan.nil))) hc21 (ent_f hc21.fn rfl) (show Hp S0 σ0 _ ([Ch.own n0 n0 (Sl a5 r2.1 c6) r2.1, Ch.own n0 n0 (Sl a7 r2.2.1 c8) r2.2.1, Ch.own n0 n0 (Sl a9 r2.2.2.1 c10) r2.2.2.1] ++ ([] ++ [Ch.own 0 n0 (Sl a15 r12 c16) r12, Ch.ro 0 (Sl Fe Fd Ff) Fd])) from (H.sel' [1, 2, 3, 0, 4] rfl rfl)) (by rintro _ _ _ ⟨_, _, rfl, rfl⟩; exact ⟨Ab.ownSc, trivial⟩)) wn ?_
   rintro _ σ24 ⟨_, ⟨a22, c23, rfl, rfl⟩, H, -, -⟩
   replace H : Hp _ _ _ [_, _, _, _, _, _] := H
   replace H := H.ownLow 0 n0 n0 rfl hle hle
   clear hle
   replace H : Hp _ _ _ [_, _, _, _, _, _] := H
   obtain ⟨σ25, hw26, H, -⟩ := H.pub 0 rfl (Nat.le_refl _)
   rw [← hw26]; clear hw26
   replace H := H.roLow 0 0 rfl (Nat.zero_le _)
   revert h; refine br fun r27 hx28 h => ?_
   have hc29 := c_laws_equalHits (Ad := a15) (Ae := c16) (Af := a22) (Ag := c23) hx28
   have hle := Nat.le_trans hn0 H.size
   refine st_call (cx_lend (Loan.lend (Loan.same Loan.nil)) hc29 (ent_f hc29.fn rfl) (show Hp S0 σ0 _ ([Ch.own 0 n0 (Sl a15 r12 c16) r12] ++ ([Ch.ro 0 (Sl a22 r19 c23) r19] ++ [Ch.ro 0 (Sl a22 r19 c23) r19, Ch.ro n0 (Sl a22 r19 c23) r19, Ch.own n0 n0 (Sl a5 r2.1 c6) r2.1, Ch.own n0 n0 (Sl a7 r2.2.1 c8) r2.2.1, Ch.own n0 n0 (Sl a9 r2.2.2.1 c10) r2.2.2.1, Ch.ro 0 (Sl Fe Fd Ff) Fd])) from (H.sel' [5, 0, 0, 1, 2, 3, 4, 6] rfl rfl)) (by rintro _ _ _ ⟨rfl, rfl⟩; exact trivial)) wn ?_
   rintro _ σ30 ⟨_, ⟨rfl, rfl⟩, H, -, -⟩
   replace H : Hp _ _ _ [_, _, _, _, _, _, _] := H
   clear hle
   replace H : Hp _ _ _ [_, _, _, _, _, _, _] := H
   refine st (v := (B (!r27))) (rv_not rfl) (sm (B (!r27)) rfl ?_)
   rcases Bool.eq_false_or_eq_true (!r27) with hb31 | hb31
   ·replace h := bif_t hb31 h
    refine st_skip (congrArg some hb31) (st_skip (congrArg some hb31) (st_skip (congrArg some hb31) (st (v := (B true)) (rv_pick_t (congrArg B hb31) rfl) (sm (B true) rfl (st_skip rfl (st_skip rfl (st (v := (B true)) (rv_pick_t rfl rfl) (w_end ?_))))))))
    obtain rfl := sj h
    exact ⟨rfl, _, σ30, fr_join ⟨rfl, rfl, rfl, rfl, rfl, rfl, rfl, trivial⟩, rfl, H.sel' [3, 4, 5, 0] rfl rfl⟩
   ·replace h := bif_f hb31 h
    refine st_g (v := (Sl a15 r12 c16)) (congrArg some hb31) (rv_move rfl) (st_g (v := (I (r12.length : Int))) (congrArg some hb31) (rv_len Tryz.underlying27 rfl) (st_g (v := (B ((r12.length : Int) == 0))) (congrArg some hb31) (rv_eql (a := (r12.length : Int)) (b := 0) rfl rfl) (st (v := (B ((r12.length : Int) == 0))) (rv_pick_f (congrArg B hb31) rfl) (sm (B ((r12.length : Int) == 0)) rfl ?_))))
    rcases Bool.eq_false_or_eq_true ((r12.length : Int) == 0) with hb32 | hb32
    ·replace h := bif_t hb32 h
     refine st_skip (congrArg some hb32) (st_skip (congrArg some hb32) (st (v := (B true)) (rv_pick_t (congrArg B hb32) rfl) (w_end ?_)))
     obtain rfl := sj h
     exact ⟨rfl, _, σ30, fr_join ⟨rfl, rfl, rfl, rfl, rfl, rfl, rfl, trivial⟩, rfl, H.sel' [3, 4, 5, 0] rfl rfl⟩
    ·replace h := bif_f hb32 h
     refine st_g (v := (I r2.2.2.2.1)) (congrArg some hb32) (rv_move rfl) (st_g (v := (B (r2.2.2.2.1 == 6))) (congrArg some hb32) (rv_eql (a := r2.2.2.2.1) (b := 6) rfl rfl) (st (v := (B (r2.2.2.2.1 == 6))) (rv_pick_f (congrArg B hb32) rfl) (w_end ?_)))
     obtain rfl := sj h
     exact ⟨rfl, _, σ30, fr_join ⟨rfl, rfl, rfl, rfl, rfl, rfl, rfl, trivial⟩, rfl, H.sel' [3, 4, 5, 0] rfl rfl⟩
  ·clear hj
   have h := h'
   clear h' H
   rintro e a w ⟨rfl, ρ, σ33, rfl, rfl, H⟩
   refine q_then ?_
   refine cd_cond o18 rfl (fun hb34 => ?_) (fun hb34 => ?_)
   ·replace h := bif_t hb34 h
    refine c_seq (rg (sm (Sl a15 r12 c16) rfl (sm (Sl a5 r2.1 c6) rfl (sm (Sl a7 r2.2.1 c8) rfl (sm (Sl a9 r2.2.2.1 c10) rfl (sm (I r2.2.2.2.1) rfl (sm (I r2.2.2.2.2) rfl ?_)))))))
    obtain ⟨σ35, hw36, H, -⟩ := H.pub 0 rfl (Nat.le_refl _)
    rw [← hw36]; clear hw36
    obtain ⟨σ37, hw38, H, -⟩ := H.pub 1 rfl (Nat.le_refl _)
    rw [← hw38]; clear hw38
    obtain ⟨σ39, hw40, H, -⟩ := H.pub 2 rfl (Nat.le_refl _)
    rw [← hw40]; clear hw40
    replace H := H.roLow 2 0 rfl (Nat.zero_le _)
    replace H := H.roLow 2 0 rfl (Nat.zero_le _)
    replace H := H.roLow 2 0 rfl (Nat.zero_le _)
    revert h; refine br fun r41 hx42 h => ?_
    have hc43 := c_spec_HashNearest (Ft := a5) (Fu := c6) (Fk := a7) (Fl := c8) (Bd := a9) (Be := c10) hx42
    refine st_call (cx_call hc43 (ent_f hc43.fn rfl) hn0 (H.sel' [2, 1, 0, 0, 1, 2, 3, 4, 5, 6] rfl rfl : Hp S0 σ0 _ ([_, _, _] ++ _))) wn ?_
    rintro _ σ46 ⟨_, ⟨a44, c45, rfl, rfl⟩, H, -⟩
    replace H : Hp _ _ _ [_, _, _, _, _, _, _, _] := H
    replace H : Hp S0 σ0 σ46 [Ch.own n0 n0 (Sl a44 r41 c45) r41, Ch.own 0 n0 (Sl a15 r12 c16) r12] := H.sel' [0, 7] rfl rfl
    replace H := H.ownLow 1 0 0 rfl (Nat.le_refl _) (Nat.zero_le _)
    obtain ⟨σ47, hw48, H, -⟩ := H.pub 0 rfl (Nat.le_refl _)
    rw [← hw48]; clear hw48
    obtain ⟨σ49, hw50, H, -⟩ := H.pub 1 rfl (Nat.le_refl _)
    rw [← hw50]; clear hw50
    replace H := H.roLow 0 0 rfl (Nat.zero_le _)
    revert h; refine br fun r51 hx52 h => ?_
    have hc53 := c_laws_equalHits (Ad := a15) (Ae := c16) (Af := a44) (Ag := c45) hx52
    refine st_call (cx_call hc53 (ent_f hc53.fn rfl) hn0 (H.sel' [2, 0, 0, 1, 2] rfl rfl : Hp S0 σ0 _ ([_, _] ++ _))) wn ?_
    rintro _ σ54 ⟨_, ⟨rfl, rfl⟩, H, -⟩
    replace H : Hp _ _ _ [_, _, _] := H
    refine sa (B r51) rfl (w_end (q_then (c_ret (q_then_r ?_))))
    obtain rfl := sj h
    exact fin_ret (v := (B r51)) (results_ok Tryz.results7 (res_tmp (v := (B r51)) rfl res_nil) rfl) ⟨rfl, rfl⟩ (H.sel' [] rfl rfl)
   ·replace h := bif_f hb34 h
    refine c_skip (q_then (c_seq (rg (sm (Sl a7 r2.2.1 c8) rfl (sm (Sl a9 r2.2.2.1 c10) rfl (sm (I r2.2.2.2.2) rfl ?_))))))
    revert h; refine br fun r55 hx56 h => ?_
    have hc57 := c_impl_Nearest (Ax := a7) (Ay := c8) (Bd := a9) (Be := c10) hx56
    have hle := Nat.le_trans hn0 H.size
    refine st_call (cx_lend (Loan.lend (Loan.lend Loan.nil)) hc57 (ent_f hc57.fn rfl) (show Hp S0 σ0 _ ([Ch.own n0 n0 (Sl a7 r2.2.1 c8) r2.2.1, Ch.own n0 n0 (Sl a9 r2.2.2.1 c10) r2.2.2.1] ++ ([] ++ [Ch.own n0 n0 (Sl a5 r2.1 c6) r2.1, Ch.own 0 n0 (Sl a15 r12 c16) r12])) from (H.sel' [1, 2, 0, 3] rfl rfl)) (by rintro _ _ _ ⟨_, _, rfl, rfl⟩; exact ⟨Ab.ownSc, trivial⟩)) wn ?_
    rintro _ σ60 ⟨_, ⟨a58, c59, rfl, rfl⟩, H, -, -⟩
    replace H : Hp _ _ _ [_, _, _, _, _] := H
    replace H := H.ownLow 0 0 n0 rfl (Nat.le_refl _) hle
    clear hle
    replace H : Hp _ _ _ [_, _, _, _, _] := H
    refine sa (Sl a58 r55 c59) rfl (w_end (q_then (c_seq (rg (sm (Sl a5 r2.1 c6) rfl (sm (Sl a7 r2.2.1 c8) rfl (sm (Sl a9 r2.2.2.1 c10) rfl (sm (I r2.2.2.2.1) rfl (st (v := (I (w64 (r2.2.2.2.1 + 1)))) (rv_add (a := r2.2.2.2.1) (b := 1) rfl rfl) (sm (I r2.2.2.2.2) rfl ?_))))))))))
    obtain ⟨σ61, hw62, H, -⟩ := H.pub 3 rfl (Nat.le_refl _)
    rw [← hw62]; clear hw62
    obtain ⟨σ63, hw64, H, -⟩ := H.pub 2 rfl (Nat.le_refl _)
    rw [← hw64]; clear hw64
    obtain ⟨σ65, hw66, H, -⟩ := H.pub 3 rfl (Nat.le_refl _)
    rw [← hw66]; clear hw66
    replace H := H.roLow 2 0 rfl (Nat.zero_le _)
    replace H := H.roLow 2 0 rfl (Nat.zero_le _)
    replace H := H.roLow 2 0 rfl (Nat.zero_le _)
    revert h; refine br fun r67 hx68 h => ?_
    have hc69 := c_impl_HashNearest (Ft := a5) (Fu := c6) (Fk := a7) (Fl := c8) (Bd := a9) (Be := c10) hx68
    refine st_call (cx_call hc69 (ent_f hc69.fn rfl) hn0 (H.sel' [2, 1, 0, 0, 1, 2, 3, 4, 5, 6, 7] rfl rfl : Hp S0 σ0 _ ([_, _, _] ++ _))) wn ?_
    rintro _ σ72 ⟨_, ⟨a70, c71, rfl, rfl⟩, H, -⟩
    replace H : Hp _ _ _ [_, _, _, _, _, _, _, _, _] := H
    replace H : Hp S0 σ0 σ72 [Ch.own 0 n0 (Sl a70 r67 c71) r67, Ch.own 0 n0 (Sl a58 r55 c59) r55, Ch.own 0 n0 (Sl a15 r12 c16) r12] := H.sel' [0, 7, 8] rfl rfl
    refine sa (Sl a70 r67 c71) rfl (w_end (q_then (c_seq (rg (sm (Sl a58 r55 c59) rfl (sm (Sl a70 r67 c71) rfl ?_))))))
    replace H := H.ownLow 0 0 0 rfl (Nat.le_refl _) (Nat.zero_le _)
    obtain ⟨σ73, hw74, H, -⟩ := H.pub 0 rfl (Nat.le_refl _)
    rw [← hw74]; clear hw74
    revert h; refine br fun r75 hx76 h => ?_
    have hc77 := c_impl_RecallOf (Hr := a58) (Ht := c59) (Hu := a70) (Hv := c71) hx76
    have hle := Nat.le_trans hn0 H.size
    refine st_call (cx_lend (Loan.lend (Loan.same Loan.nil)) hc77 (ent_f hc77.fn rfl) (show Hp S0 σ0 _ ([Ch.own 0 n0 (Sl a58 r55 c59) r55] ++ ([Ch.ro 0 (Sl a70 r67 c71) r67] ++ [Ch.ro 0 (Sl a70 r67 c71) r67, Ch.own 0 n0 (Sl a15 r12 c16) r12])) from (H.sel' [1, 0, 0, 2] rfl rfl)) (by rintro _ _ _ ⟨rfl, rfl⟩; exact trivial)) wn ?_
    rintro _ σ78 ⟨_, ⟨rfl, rfl⟩, H, -, -⟩
    replace H : Hp _ _ _ [_, _, _] := H
    clear hle
    replace H : Hp _ _ _ [_, _, _] := H
    refine sm (Sl a58 r55 c59) rfl (sm (Sl a15 r12 c16) rfl ?_)
    replace H := H.ownLow 0 0 0 rfl (Nat.le_refl _) (Nat.zero_le _)
    obtain ⟨σ79, hw80, H, -⟩ := H.pub 0 rfl (Nat.le_refl _)
    rw [← hw80]; clear hw80
    replace H := H.ownLow 2 0 0 rfl (Nat.le_refl _) (Nat.zero_le _)
    obtain ⟨σ81, hw82, H, -⟩ := H.pub 0 rfl (Nat.le_refl _)
    rw [← hw82]; clear hw82
    revert h; refine br fun r83 hx84 h => ?_
    have hc85 := c_impl_RecallOf (Hr := a58) (Ht := c59) (Hu := a15) (Hv := c16) hx84
    refine st_call (cx_call hc85 (ent_f hc85.fn rfl) hn0 (H.sel' [1, 0, 0, 1, 2] rfl rfl : Hp S0 σ0 _ ([_, _] ++ _))) wn ?_
    rintro _ σ86 ⟨_, ⟨rfl, rfl⟩, H, -⟩
    replace H : Hp _ _ _ [_, _, _] := H
    refine st (v := (B (decide (r83 ≤ r75)))) (rv_geq (a := r75) (b := r83) rfl rfl) (sa (B (decide (r83 ≤ r75))) rfl (w_end (q_then (c_ret ?_))))
    obtain rfl := sj h
    exact fin_ret (v := (B (decide (r83 ≤ r75)))) (results_ok Tryz.results7 (res_tmp (v := (B (decide (r83 ≤ r75)))) rfl res_nil) rfl) ⟨rfl, rfl⟩ (H.sel' [] rfl rfl)

end Go.Vs
