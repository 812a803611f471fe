/- The functions compute what their models say. -/
import Derived.Test.YtbbddfckcpfoaaaGreatKWalkToEndC4
set_option linter.unusedVariables false
set_option linter.unusedSimpArgs false
set_option maxRecDepth 20000
namespace Go.Vs
open Go Go.Proofs
attribute [local irreducible] Code.wp Code.wpIn wpList wpListIn wpQuiet Calls CallsIn

theorem c_spec_WalkTo {Az : List (Int × (List Int) × Int)} {Fi : Int} {Fp : Int} {Ha : Int} {Hc : List Int} {Ba : Option Addr} {Bb : Nat} {Hd : Option Addr} {He : Nat} {r : (List Int) × Bool} (h : M.spec_WalkTo Az Fi Fp Ha Hc = some r) :
    Cal2 Tryz.prog 39 [(Sl Ba Az Bb), (I Fi), (I Fp), (I Ha), (Sl Hd Hc He)] [Ch.ro 0 (Sl Ba Az Bb) Az, Ch.ro 0 (Sl Hd Hc He) Hc] (fun n0 v L => ∃ (az1 : Option Addr), ∃ (cz2 : Nat), v = (.tuple #[(Sl az1 r.1 cz2), (B r.2)]) ∧ L = [Ch.own n0 n0 (Sl az1 r.1 cz2) r.1]) := by
 refine cal2 (n := 91) Tryz.func39 rfl rfl rfl rfl ?_
 intro S0 σ0 n0 hn0 H
 unfold M.spec_WalkTo at h
 refine c_seq (rg (sa (.slice none 0 0) rfl (sa (B false) rfl (w_end (q_then (c_seq (c_seq ?_)))))))
 obtain ⟨o1, hj, h'⟩ := bind_some h
 clear h
 refine c_cut (fun e a w => e = .normal ∧ ∃ (ρ : Nat → Value) (σ : St), a = fr 91 (updL ρ [(0, (Sl Ba Az Bb)), (1, (I Fi)), (2, (I Fp)), (3, (I Ha)), (4, (Sl Hd Hc He)), (34, (B o1))]) ∧ w = σ.w ∧ Hp S0 σ0 σ [Ch.ro 0 (Sl Ba Az Bb) Az, Ch.ro 0 (Sl Hd Hc He) Hc]) ?_ ?_
 ·clear h'
  rename _ = some o1 => h
  refine rg (sm (Sl Ba Az Bb) rfl (sm (I Fi) rfl (sm (Sl Hd Hc He) rfl ?_)))
  revert h; refine br fun r2 hx3 h => ?_
  have hc4 := c_spec_validQuery (Ba := Ba) (Bb := Bb) (Fl := Hd) (Fm := He) hx3
  refine st_call (cx_call hc4 (ent_f hc4.fn rfl) hn0 (H.sel' [0, 1, 0, 1] rfl rfl : Hp S0 σ0 _ ([_, _] ++ _))) wn ?_
  rintro _ σ5 ⟨_, ⟨rfl, rfl⟩, H, -⟩
  replace H : Hp _ _ _ [_, _] := H
  refine st (v := (B (!r2))) (rv_not rfl) (sm (B (!r2)) rfl ?_)
  rcases Bool.eq_false_or_eq_true (!r2) with hb6 | hb6
  ·replace h := bif_t hb6 h
   refine st_skip (congrArg some hb6) (st_skip (congrArg some hb6) (st_skip (congrArg some hb6) (st (v := (B true)) (rv_pick_t (congrArg B hb6) rfl) (sm (B true) rfl (st_skip rfl (st_skip rfl (st_skip rfl (st_skip rfl (st (v := (B true)) (rv_pick_t rfl rfl) (w_end ?_))))))))))
   obtain rfl := sj h
   exact ⟨rfl, _, σ5, fr_join ⟨rfl, rfl, rfl, rfl, rfl, rfl, trivial⟩, rfl, H.sel' [0, 1] rfl rfl⟩
  ·replace h := bif_f hb6 h
   refine st_g (v := (I Fp)) (congrArg some hb6) (rv_move rfl) ?_
   revert h; refine br fun r7 hx8 h => ?_
   have hc9 := c_spec_inRange hx8
   refine st_call (cx_call hc9 (ent_f hc9.fn rfl) hn0 (H.sel' [0, 1] rfl rfl : Hp S0 σ0 _ ([] ++ _))) (wanted_yes rfl (by exact (congrArg some hb6))) ?_
   rintro _ σ10 ⟨_, ⟨rfl, rfl⟩, H, -⟩
   replace H : Hp _ _ _ [_, _] := H
   refine st_g (v := (B (!r7))) (congrArg some hb6) (rv_not rfl) (st (v := (B (!r7))) (rv_pick_f (congrArg B hb6) rfl) (sm (B (!r7)) rfl ?_))
   rcases Bool.eq_false_or_eq_true (!r7) with hb11 | hb11
   ·replace h := bif_t hb11 h
    refine st_skip (congrArg some hb11) (st_skip (congrArg some hb11) (st_skip (congrArg some hb11) (st_skip (congrArg some hb11) (st (v := (B true)) (rv_pick_t (congrArg B hb11) rfl) (w_end ?_)))))
    obtain rfl := sj h
    exact ⟨rfl, _, σ10, fr_join ⟨rfl, rfl, rfl, rfl, rfl, rfl, trivial⟩, rfl, H.sel' [0, 1] rfl rfl⟩
   ·replace h := bif_f hb11 h
    refine st_g (v := (Sl Ba Az Bb)) (congrArg some hb11) (rv_move rfl) (st_g (v := (I Ha)) (congrArg some hb11) (rv_move rfl) ?_)
    revert h; refine br fun r12 hx13 h => ?_
    have hc14 := c_spec_keyAt (Ba := Ba) (Bb := Bb) hx13
    refine st_call (cx_call hc14 (ent_f hc14.fn rfl) hn0 (H.sel' [0, 0, 1] rfl rfl : Hp S0 σ0 _ ([_] ++ _))) (wanted_yes rfl (by exact (congrArg some hb11))) ?_
    rintro _ σ15 ⟨_, ⟨rfl, rfl⟩, H, -⟩
    replace H : Hp _ _ _ [_, _] := H
    refine st_g (v := (B (decide (r12 < 0)))) (congrArg some hb11) (rv_lss (a := r12) (b := 0) rfl rfl) (st (v := (B (decide (r12 < 0)))) (rv_pick_f (congrArg B hb11) rfl) (w_end ?_))
    obtain rfl := sj h
    exact ⟨rfl, _, σ15, fr_join ⟨rfl, rfl, rfl, rfl, rfl, rfl, trivial⟩, rfl, H.sel' [0, 1] rfl rfl⟩
 ·clear hj
  have h := h'
  clear h' H
  rintro e a w ⟨rfl, ρ, σ16, rfl, rfl, H⟩
  refine q_then ?_
  refine cd_cond o1 rfl (fun hb17 => ?_) (fun hb17 => ?_)
  ·replace h := bif_t hb17 h
   refine c_seq (rg (sa (.slice none 0 0) rfl (sa (B false) rfl (w_end (q_then (c_ret (q_then_r ?_)))))))
   replace H := H.nilOwn Int n0 n0
   obtain rfl := sj h
   exact fin_ret (v := (.tuple #[(.slice none 0 0), (B false)])) (results_ok Tryz.results39 (res_tmp (v := (.slice none 0 0)) rfl (res_tmp (v := (B false)) rfl res_nil)) rfl) ⟨none, 0, rfl, rfl⟩ (H.sel' [0] rfl rfl)
  ·replace h := bif_f hb17 h
   refine c_skip (q_then (c_seq (rg (sm (Sl Ba Az Bb) rfl (sm (I Fi) rfl (sm (I Fp) rfl ?_))))))
   revert h; refine br fun r18 hx19 h => ?_
   have hc20 := c_spec_links (Ba := Ba) (Bb := Bb) hx19
   refine st_call (cx_call hc20 (ent_f hc20.fn rfl) hn0 (H.sel' [0, 0, 1] rfl rfl : Hp S0 σ0 _ ([_] ++ _))) wn ?_
   rintro _ σ23 ⟨_, ⟨a21, c22, rfl, rfl⟩, H, -⟩
   replace H : Hp _ _ _ [_, _, _] := H
   refine sa (Sl a21 r18 c22) rfl (w_end (q_then (c_seq (rg (sm (Sl Ba Az Bb) rfl (sm (Sl Ba Az Bb) rfl (sm (I Ha) rfl ?_)))))))
   revert h; refine br fun r24 hx25 h => ?_
   have hc26 := c_spec_keyAt (Ba := Ba) (Bb := Bb) hx25
   refine st_call (cx_call hc26 (ent_f hc26.fn rfl) hn0 (H.sel' [1, 0, 1, 2] rfl rfl : Hp S0 σ0 _ ([_] ++ _))) wn ?_
   rintro _ σ27 ⟨_, ⟨rfl, rfl⟩, H, -⟩
   replace H : Hp _ _ _ [_, _, _] := H
   revert h; refine br fun x28 hx29 h => ?_
   obtain ⟨b31, o32, hi30, -⟩ := (H.ro 1 rfl).ix hx29
   refine st (v := (pt b31 o32)) (rv_ix Tryz.underlying26 ti34 rfl rfl hi30) ?_
   obtain ⟨_, ⟨_, _, rfl, rfl, ⟨_, _, rfl, ⟨_, rfl, hR37⟩, rfl⟩⟩, hl33, hc34⟩ := ((H.ro 1 rfl).at hx29 hi30).cells
   obtain ⟨a35, c36, rfl⟩ := hR37.isSl
   replace H := H.add (d := Ch.ro 0 (Sl a35 x28.2.1 c36) x28.2.1) hR37 (fun _ h => h)
   clear hR37
   refine st (v := (.agg #[(I x28.1), (Sl a35 x28.2.1 c36), (I x28.2.2)])) (rv_load Tryz.underlying34 rfl ti34 rfl hl33 hc34) (sm (I Fi) rfl (sm (Sl Hd Hc He) rfl ?_))
   revert h; refine br fun r38 hx39 h => ?_
   have hc40 := c_spec_hit (Bk := a35) (Bl := c36) (Fl := Hd) (Fm := He) hx39
   refine st_call (cx_call hc40 (ent_f hc40.fn rfl) hn0 (H.sel' [0, 3, 0, 1, 2, 3] rfl rfl : Hp S0 σ0 _ ([_, _] ++ _))) wn ?_
   rintro _ σ41 ⟨_, ⟨rfl, rfl⟩, H, -⟩
   replace H : Hp _ _ _ [_, _, _, _] := H
   refine st_ex (ex_alloc (cs := [(I 0), (I 0)]) H hn0 ti43 rfl) wn ?_
   rintro _ σ43 ⟨b42, rfl, H, -⟩
   refine st_exS (ex_store_box (k := 0) (cs := [(I 0), (I 0)]) (vs := [(I r38.1), (I r38.2)]) (cs' := [(I r38.1), (I r38.2)]) H (i := 0) rfl ti43 rfl rfl rfl rfl rfl (Nat.le_of_ble_eq_true rfl) (by simp [plain]) rfl) wn ?_
   rintro σ44 ⟨H, -⟩
   refine w_end (q_then (c_seq (rg (st (v := (pt b42 0)) (rv_fieldAddr (off := 0) (ft := 3) Tryz.underlying43 rfl ti3 rfl rfl) ?_))))
   have hc45 := H.cell (u := (I r38.1)) (o' := 0) 0 0 rfl rfl rfl
   refine st (v := (I r38.1)) (rv_load1 Tryz.underlying3 rfl rfl hc45) ?_
   refine st_ex (ex_buildSlice (el := n0) (xs := ([r38.1] : List Int)) (ps := [(0, (I r38.1))]) (cs := [(I r38.1)]) H hn0 Tryz.underlying27 ti3 rfl rfl (by kernel_rfl) (.cons (c := [(I r38.1)]) rfl (.nil)) rfl) wn ?_
   rintro _ σ47 ⟨b46, rfl, H, -⟩
   refine sa (Sl (some ⟨b46, 0, none⟩) ([r38.1] : List Int) 1) rfl (w_end (q_then ?_))
   obtain ⟨o48, hj, h'⟩ := bind_some h
   clear h
   refine c_cut (fun e a w => e = .ret ∧ ∃ (ρ : Nat → Value) (σ : St) (aj1 : Option Addr) (cj2 : Nat), a = fr 91 (updL ρ [(10, (Sl aj1 o48.1 cj2)), (11, (B o48.2))]) ∧ w = σ.w ∧ Hp S0 σ0 σ [Ch.own n0 n0 (Sl aj1 o48.1 cj2) o48.1]) ?_ ?_
   ·clear h'
    rename _ = some o48 => h
    refine c_blk (wp_loopM _ h (fun s49 a w => ∃ (ρ : Nat → Value) (σ : St) (aj1 : Option Addr) (cj2 : Nat), a = fr 91 (updL ρ [(0, (Sl Ba Az Bb)), (1, (I Fi)), (4, (Sl Hd Hc He)), (12, (Sl a21 r18 c22)), (13, (pt b42 0)), (14, (Sl aj1 s49.2 cj2))]) ∧ w = σ.w ∧ Hp S0 σ0 σ [Ch.bx n0 b42 0 [(I s49.1.1), (I s49.1.2)] [] [], Ch.ro 0 (Sl Ba Az Bb) Az, Ch.ro 0 (Sl Hd Hc He) Hc, Ch.own n0 n0 (Sl a21 r18 c22) r18, Ch.own n0 n0 (Sl aj1 s49.2 cj2) s49.2]) ⟨_, σ47, (some ⟨b46, 0, none⟩), 1, fr_join ⟨rfl, rfl, rfl, rfl, rfl, rfl, trivial⟩, rfl, H.sel' [1, 4, 5, 3, 0] rfl rfl⟩ ?_)
    clear h H
    rintro s49 a w o ⟨ρ, σ50, a51, c52, rfl, rfl, H⟩ h hres
    refine c_blk (c_seq (rg ?_))
    have hc53 := H.cells 0 rfl
    refine st (v := (.agg #[(I s49.1.1), (I s49.1.2)])) (rv_load (cs := [(I s49.1.1), (I s49.1.2)]) Tryz.underlying43 rfl ti43 rfl rfl hc53) (st_ex (ex_alloc (cs := [(I 0), (I 0)]) H hn0 ti43 rfl) wn ?_)
    rintro _ σ55 ⟨b54, rfl, H, -⟩
    refine st_exS (ex_store_box (k := 0) (cs := [(I 0), (I 0)]) (vs := [(I s49.1.1), (I s49.1.2)]) (cs' := [(I s49.1.1), (I s49.1.2)]) H (i := 0) rfl ti43 rfl rfl rfl rfl rfl (Nat.le_of_ble_eq_true rfl) (by simp [plain]) rfl) wn ?_
    rintro σ56 ⟨H, -⟩
    refine w_end (q_then (c_seq (rg (sm (Sl a21 r18 c22) rfl (sm (Sl Ba Az Bb) rfl (st (v := (pt b42 0)) (rv_fieldAddr (off := 0) (ft := 3) Tryz.underlying43 rfl ti3 rfl rfl) ?_))))))
    have hc57 := H.cell (u := (I s49.1.1)) (o' := 0) 1 0 rfl rfl rfl
    refine st (v := (I s49.1.1)) (rv_load1 Tryz.underlying3 rfl rfl hc57) ?_
    revert h; refine br fun r58 hx59 h => ?_
    have hc60 := c_spec_keyAt (Ba := Ba) (Bb := Bb) hx59
    refine st_call (cx_call hc60 (ent_f hc60.fn rfl) hn0 (H.sel' [2, 0, 1, 2, 3, 4, 5] rfl rfl : Hp S0 σ0 _ ([_] ++ _))) wn ?_
    rintro _ σ61 ⟨_, ⟨rfl, rfl⟩, H, -⟩
    replace H : Hp _ _ _ [_, _, _, _, _, _] := H
    revert h; refine br fun x62 hx63 h => ?_
    obtain ⟨b65, o66, hi64, -⟩ := (H.own 4 rfl).ix hx63
    refine st (v := (pt b65 o66)) (rv_ix Tryz.underlying23 ti27 rfl rfl hi64) ?_
    obtain ⟨v70, hc71, hR69⟩ := ((H.own 4 rfl).at hx63 hi64).slice
    obtain ⟨a67, c68, rfl⟩ := hR69.isSl
    replace H := H.add (d := Ch.ro n0 (Sl a67 x62 c68) x62) hR69 (fun _ h => h)
    clear hR69
    refine st (v := (Sl a67 x62 c68)) (rv_load1 Tryz.underlying27 rfl rfl hc71) (sa (Sl a67 x62 c68) rfl (w_end (q_then (c_seq (c_seq (rg (sa (I 0) rfl (w_end (q_then ?_)))))))))
    obtain ⟨o72, hj, h'⟩ := bind_some h
    clear h
    refine c_cut (fun e a w => e = .normal ∧ ∃ (ρ : Nat → Value) (σ : St), a = fr 91 (updL ρ [(0, (Sl Ba Az Bb)), (1, (I Fi)), (4, (Sl Hd Hc He)), (12, (Sl a21 r18 c22)), (13, (pt b42 0)), (14, (Sl a51 s49.2 c52)), (15, (pt b54 0))]) ∧ w = σ.w ∧ Hp S0 σ0 σ [Ch.bx n0 b54 0 [(I o72.1), (I o72.2)] [] [], Ch.ro 0 (Sl Ba Az Bb) Az, Ch.ro 0 (Sl Hd Hc He) Hc, Ch.own n0 n0 (Sl a21 r18 c22) r18, Ch.bx n0 b42 0 [(I s49.1.1), (I s49.1.2)] [] [], Ch.own n0 n0 (Sl a51 s49.2 c52) s49.2]) ?_ ?_
    ·clear h'
     rename _ = some o72 => h
     refine c_blk (wp_loopM _ h (fun s73 a w => ∃ (ρ : Nat → Value) (σ : St), a = fr 91 (updL ρ [(0, (Sl Ba Az Bb)), (1, (I Fi)), (4, (Sl Hd Hc He)), (12, (Sl a21 r18 c22)), (13, (pt b42 0)), (14, (Sl a51 s49.2 c52)), (15, (pt b54 0)), (16, (Sl a67 x62 c68)), (17, (I s73.2))]) ∧ w = σ.w ∧ Hp S0 σ0 σ [Ch.bx n0 b54 0 [(I s73.1.1), (I s73.1.2)] [] [], Ch.ro 0 (Sl Ba Az Bb) Az, Ch.ro 0 (Sl Hd Hc He) Hc, Ch.own n0 n0 (Sl a21 r18 c22) r18, Ch.bx n0 b42 0 [(I s49.1.1), (I s49.1.2)] [] [], Ch.own n0 n0 (Sl a51 s49.2 c52) s49.2, Ch.ro n0 (Sl a67 x62 c68) x62]) ⟨_, σ61, fr_join ⟨rfl, rfl, rfl, rfl, rfl, rfl, rfl, rfl, rfl, trivial⟩, rfl, H.sel' [1, 3, 4, 5, 2, 6, 0] rfl rfl⟩ ?_)
     clear h H
     rintro s73 a w o ⟨ρ, σ74, rfl, rfl, H⟩ h hres
     refine c_seq (c_seq (rg (sm (I s73.2) rfl (sm (Sl a67 x62 c68) rfl (st (v := (I (x62.length : Int))) (rv_len Tryz.underlying27 rfl) (st (v := (B (decide (s73.2 < (x62.length : Int))))) (rv_lss (a := s73.2) (b := (x62.length : Int)) rfl rfl) (w_end (q_then ?_))))))))
     refine cd_cond (decide (s73.2 < (x62.length : Int))) rfl (fun hb75 => ?_) (fun hb75 => ?_)
     ·replace h := bif_t hb75 h
      refine c_skip (q_then (c_seq ?_))
      obtain ⟨o76, hj, h'⟩ := bind_some h
      clear h
      refine c_cut (fun e a w => e = .normal ∧ ∃ (ρ : Nat → Value) (σ : St), a = fr 91 (updL ρ [(0, (Sl Ba Az Bb)), (1, (I Fi)), (4, (Sl Hd Hc He)), (12, (Sl a21 r18 c22)), (13, (pt b42 0)), (14, (Sl a51 s49.2 c52)), (15, (pt b54 0)), (16, (Sl a67 x62 c68)), (17, (I s73.2))]) ∧ w = σ.w ∧ Hp S0 σ0 σ [Ch.bx n0 b54 0 [(I o76.1), (I o76.2)] [] [], Ch.ro 0 (Sl Ba Az Bb) Az, Ch.ro 0 (Sl Hd Hc He) Hc, Ch.own n0 n0 (Sl a21 r18 c22) r18, Ch.bx n0 b42 0 [(I s49.1.1), (I s49.1.2)] [] [], Ch.own n0 n0 (Sl a51 s49.2 c52) s49.2, Ch.ro n0 (Sl a67 x62 c68) x62]) ?_ ?_
      ·clear h'
       rename _ = some o76 => h
       refine c_blk (c_seq (rg (sm (Sl Ba Az Bb) rfl (sm (Sl Ba Az Bb) rfl (sm (Sl a67 x62 c68) rfl (sm (I s73.2) rfl ?_))))))
       revert h; refine br fun x77 hx78 h => ?_
       obtain ⟨b80, o81, hi79, -⟩ := (H.ro 6 rfl).ix hx78
       refine st (v := (pt b80 o81)) (rv_ix Tryz.underlying27 ti3 rfl rfl hi79) ?_
       have hc82 := ((H.ro 6 rfl).at hx78 hi79).int
       refine st (v := (I x77)) (rv_load1 Tryz.underlying3 rfl rfl hc82) ?_
       revert h; refine br fun r83 hx84 h => ?_
       have hc85 := c_spec_keyAt (Ba := Ba) (Bb := Bb) hx84
       refine st_call (cx_call hc85 (ent_f hc85.fn rfl) hn0 (H.sel' [1, 0, 1, 2, 3, 4, 5, 6] rfl rfl : Hp S0 σ0 _ ([_] ++ _))) wn ?_
       rintro _ σ86 ⟨_, ⟨rfl, rfl⟩, H, -⟩
       replace H : Hp _ _ _ [_, _, _, _, _, _, _] := H
       revert h; refine br fun x87 hx88 h => ?_
       obtain ⟨b90, o91, hi89, -⟩ := (H.ro 1 rfl).ix hx88
       refine st (v := (pt b90 o91)) (rv_ix Tryz.underlying26 ti34 rfl rfl hi89) ?_
       obtain ⟨_, ⟨_, _, rfl, rfl, ⟨_, _, rfl, ⟨_, rfl, hR96⟩, rfl⟩⟩, hl92, hc93⟩ := ((H.ro 1 rfl).at hx88 hi89).cells
       obtain ⟨a94, c95, rfl⟩ := hR96.isSl
       replace H := H.add (d := Ch.ro 0 (Sl a94 x87.2.1 c95) x87.2.1) hR96 (fun _ h => h)
       clear hR96
       refine st (v := (.agg #[(I x87.1), (Sl a94 x87.2.1 c95), (I x87.2.2)])) (rv_load Tryz.underlying34 rfl ti34 rfl hl92 hc93) (sm (I Fi) rfl (sm (Sl Hd Hc He) rfl ?_))
       revert h; refine br fun r97 hx98 h => ?_
       have hc99 := c_spec_hit (Bk := a94) (Bl := c95) (Fl := Hd) (Fm := He) hx98
       refine st_call (cx_call hc99 (ent_f hc99.fn rfl) hn0 (H.sel' [0, 3, 0, 1, 2, 3, 4, 5, 6, 7] rfl rfl : Hp S0 σ0 _ ([_, _] ++ _))) wn ?_
       rintro _ σ100 ⟨_, ⟨rfl, rfl⟩, H, -⟩
       replace H : Hp _ _ _ [_, _, _, _, _, _, _, _] := H
       replace H : Hp S0 σ0 σ100 [Ch.bx n0 b54 0 [(I s73.1.1), (I s73.1.2)] [] [], Ch.ro 0 (Sl Ba Az Bb) Az, Ch.ro 0 (Sl Hd Hc He) Hc, Ch.own n0 n0 (Sl a21 r18 c22) r18, Ch.bx n0 b42 0 [(I s49.1.1), (I s49.1.2)] [] [], Ch.own n0 n0 (Sl a51 s49.2 c52) s49.2, Ch.ro n0 (Sl a67 x62 c68) x62] := H.sel' [1, 2, 3, 4, 5, 6, 7] rfl rfl
       refine st_ex (ex_alloc (cs := [(I 0), (I 0)]) H hn0 ti43 rfl) wn ?_
       rintro _ σ102 ⟨b101, rfl, H, -⟩
       refine st_exS (ex_store_box (k := 0) (cs := [(I 0), (I 0)]) (vs := [(I r97.1), (I r97.2)]) (cs' := [(I r97.1), (I r97.2)]) H (i := 0) rfl ti43 rfl rfl rfl rfl rfl (Nat.le_of_ble_eq_true rfl) (by simp [plain]) rfl) wn ?_
       rintro σ103 ⟨H, -⟩
       refine w_end (q_then (c_seq (rg ?_)))
       have hc104 := H.cells 0 rfl
       refine st (v := (.agg #[(I r97.1), (I r97.2)])) (rv_load (cs := [(I r97.1), (I r97.2)]) Tryz.underlying43 rfl ti43 rfl rfl hc104) ?_
       have hc105 := H.cells 1 rfl
       refine st (v := (.agg #[(I s73.1.1), (I s73.1.2)])) (rv_load (cs := [(I s73.1.1), (I s73.1.2)]) Tryz.underlying43 rfl ti43 rfl rfl hc105) ?_
       revert h; refine br fun r106 hx107 h => ?_
       have hc108 := c_spec_nearer hx107
       refine st_call (cx_call hc108 (ent_f hc108.fn rfl) hn0 (H.sel' [0, 1, 2, 3, 4, 5, 6, 7] rfl rfl : Hp S0 σ0 _ ([] ++ _))) wn ?_
       rintro _ σ109 ⟨_, ⟨rfl, rfl⟩, H, -⟩
       replace H : Hp _ _ _ [_, _, _, _, _, _, _, _] := H
       refine w_end (q_then ?_)
       refine cd_cond r106 rfl (fun hb110 => ?_) (fun hb110 => ?_)
       ·replace h := bif_t hb110 h
        refine rg ?_
        have hc111 := H.cells 0 rfl
        refine st (v := (.agg #[(I r97.1), (I r97.2)])) (rv_load (cs := [(I r97.1), (I r97.2)]) Tryz.underlying43 rfl ti43 rfl rfl hc111) ?_
        refine st_exS (ex_store_box (k := 0) (cs := [(I s73.1.1), (I s73.1.2)]) (vs := [(I r97.1), (I r97.2)]) (cs' := [(I r97.1), (I r97.2)]) H (i := 1) rfl ti43 rfl rfl rfl rfl rfl (Nat.le_of_ble_eq_true rfl) (by simp [plain]) rfl) wn ?_
        rintro σ112 ⟨H, -⟩
        replace H : Hp S0 σ0 σ112 [Ch.bx n0 b54 0 [(I r97.1), (I r97.2)] [] [], Ch.ro 0 (Sl Ba Az Bb) Az, Ch.ro 0 (Sl Hd Hc He) Hc, Ch.own n0 n0 (Sl a21 r18 c22) r18, Ch.bx n0 b42 0 [(I s49.1.1), (I s49.1.2)] [] [], Ch.own n0 n0 (Sl a51 s49.2 c52) s49.2, Ch.ro n0 (Sl a67 x62 c68) x62] := H.sel' [0, 2, 3, 4, 5, 6, 7] rfl rfl
        refine w_end (q_blk ?_)
        obtain rfl := sj h
        exact ⟨rfl, _, σ112, fr_join ⟨rfl, rfl, rfl, rfl, rfl, rfl, rfl, rfl, rfl, trivial⟩, rfl, H.sel' [0, 1, 2, 3, 4, 5, 6] rfl rfl⟩
       ·replace h := bif_f hb110 h
        refine c_skip (q_blk ?_)
        obtain rfl := sj h
        exact ⟨rfl, _, σ109, fr_join ⟨rfl, rfl, rfl, rfl, rfl, rfl, rfl, rfl, rfl, trivial⟩, rfl, H.sel' [1, 2, 3, 4, 5, 6, 7] rfl rfl⟩
      ·clear hj
       have h := h'
       clear h' H
       rintro e a w ⟨rfl, ρ, σ113, rfl, rfl, H⟩
       refine q_then (rg (sm (I s73.2) rfl (st (v := (I (w64 (s73.2 + 1)))) (rv_add (a := s73.2) (b := 1) rfl rfl) (sa (I (w64 (s73.2 + 1))) rfl (w_end (q_then ?_))))))
       obtain rfl := sj h
       exact ⟨_, rfl, _, σ113, fr_join ⟨rfl, rfl, rfl, rfl, rfl, rfl, rfl, rfl, rfl, trivial⟩, rfl, H.sel' [0, 1, 2, 3, 4, 5, 6] rfl rfl⟩
     ·replace h := bif_f hb75 h
      refine c_exit (q_then_x (q_then_x (q_blk_hit ?_)))
      obtain rfl := sj h
      obtain rfl := hres _ rfl
      exact ⟨rfl, _, σ74, fr_join ⟨rfl, rfl, rfl, rfl, rfl, rfl, rfl, trivial⟩, rfl, H.sel' [0, 1, 2, 3, 4, 5] rfl rfl⟩
    ·clear hj
     have h := h'
     clear h' H
     rintro e a w ⟨rfl, ρ, σ114, rfl, rfl, H⟩
     refine q_then (c_seq (c_seq (rg ?_)))
     have hc115 := H.cells 0 rfl
     refine st (v := (.agg #[(I o72.1), (I o72.2)])) (rv_load (cs := [(I o72.1), (I o72.2)]) Tryz.underlying43 rfl ti43 rfl rfl hc115) ?_
     have hc116 := H.cells 4 rfl
     refine st (v := (.agg #[(I s49.1.1), (I s49.1.2)])) (rv_load (cs := [(I s49.1.1), (I s49.1.2)]) Tryz.underlying43 rfl ti43 rfl rfl hc116) ?_
     refine st (v := (B (([o72.1, o72.2] : List Int) == ([s49.1.1, s49.1.2] : List Int)))) (rv_eqlI (xs := ([o72.1, o72.2] : List Int)) (ys := ([s49.1.1, s49.1.2] : List Int)) (by kernel_rfl) (by kernel_rfl) (by kernel_rfl) rfl (by kernel_rfl) (by exact intfs43) rfl rfl) ?_
     refine w_end (q_then ?_)
     refine cd_cond (([o72.1, o72.2] : List Int) == ([s49.1.1, s49.1.2] : List Int)) rfl (fun hb117 => ?_) (fun hb117 => ?_)
     ·replace h := bif_t hb117 h
      refine c_seq (rg (sm (Sl a51 s49.2 c52) rfl (sa (Sl a51 s49.2 c52) rfl (sa (B true) rfl (w_end (q_then (c_ret (q_then_r (q_blk_r (q_then_r (q_blk_r ?_)))))))))))
      obtain rfl := sj h
      obtain rfl := hres _ rfl
      exact ⟨rfl, _, σ114, a51, c52, fr_join ⟨rfl, rfl, trivial⟩, rfl, H.sel' [5] rfl rfl⟩
     ·replace h := bif_f hb117 h
      refine c_skip (q_then (c_seq (rg ?_)))
      have hc118 := H.cells 0 rfl
      refine st (v := (.agg #[(I o72.1), (I o72.2)])) (rv_load (cs := [(I o72.1), (I o72.2)]) Tryz.underlying43 rfl ti43 rfl rfl hc118) ?_
      refine st_exS (ex_store_box (k := 0) (cs := [(I s49.1.1), (I s49.1.2)]) (vs := [(I o72.1), (I o72.2)]) (cs' := [(I o72.1), (I o72.2)]) H (i := 4) rfl ti43 rfl rfl rfl rfl rfl (Nat.le_of_ble_eq_true rfl) (by simp [plain]) rfl) wn ?_
      rintro σ119 ⟨H, -⟩
      refine w_end (q_then (rg (sm (Sl a51 s49.2 c52) rfl (st (v := (pt b42 0)) (rv_fieldAddr (off := 0) (ft := 3) Tryz.underlying43 rfl ti3 rfl rfl) ?_))))
      have hc120 := H.cell (u := (I o72.1)) (o' := 0) 0 0 rfl rfl rfl
      refine st (v := (I o72.1)) (rv_load1 Tryz.underlying3 rfl rfl hc120) ?_
      refine st_ex (ex_buildSlice (el := n0) (xs := ([o72.1] : List Int)) (ps := [(0, (I o72.1))]) (cs := [(I o72.1)]) H hn0 Tryz.underlying27 ti3 rfl rfl (by kernel_rfl) (.cons (c := [(I o72.1)]) rfl (.nil)) rfl) wn ?_
      rintro _ σ122 ⟨b121, rfl, H, -⟩
      revert h; refine br fun xs123 hx124 h => ?_
      refine st_ex (ex_append H (i := 6) rfl Tryz.underlying27 Tryz.underlying27 ti3 rfl rfl (by decide) (H.own 0 rfl).rd hx124 hn0 rfl rfl) wn ?_
      rintro _ σ127 ⟨a125, c126, rfl, H, -⟩
      refine sa (Sl a125 xs123 c126) rfl (w_end (q_blk (q_then ?_)))
      obtain rfl := sj h
      exact ⟨_, rfl, _, σ127, a125, c126, fr_join ⟨rfl, rfl, rfl, rfl, rfl, rfl, trivial⟩, rfl, H.sel' [2, 4, 5, 6, 0] rfl rfl⟩
   ·clear hj
    have h := h'
    clear h' H
    rintro e a w ⟨rfl, ρ, σ128, a129, c130, rfl, rfl, H⟩
    obtain rfl := sj h
    exact fin_ret (v := (.tuple #[(Sl a129 o48.1 c130), (B o48.2)])) (results_ok Tryz.results39 (res_tmp (v := (Sl a129 o48.1 c130)) rfl (res_tmp (v := (B o48.2)) rfl res_nil)) rfl) ⟨a129, c130, rfl, rfl⟩ (H.sel' [0] rfl rfl)

theorem c_laws_FnWalkToEnd {Ah : List UInt8} {Ai : Option Addr} {Aj : Nat} {r : Bool} (h : M.laws_FnWalkToEnd Ah = some r) :
    Cal2 Tryz.prog 8 [(Sl Ai Ah Aj)] [Ch.ro 0 (Sl Ai Ah Aj) Ah] (fun n0 v L => v = (B r) ∧ L = []) := by
 refine cal2 (n := 92) Tryz.func8 rfl rfl rfl rfl ?_
 intro S0 σ0 n0 hn0 H
 unfold M.laws_FnWalkToEnd at h
 refine c_seq (rg (sa (B false) rfl (w_end (q_then (c_seq (c_seq (rg (sm (Sl Ai Ah Aj) rfl (st (v := (I (Ah.length : Int))) (rv_len Tryz.underlying22 rfl) (st (v := (B (decide (1048576 < (Ah.length : Int))))) (rv_gtr (a := (Ah.length : Int)) (b := 1048576) rfl rfl) (w_end ?_)))))))))))
 refine q_then ?_
 refine cd_cond (decide (1048576 < (Ah.length : Int))) rfl (fun hb1 => ?_) (fun hb1 => ?_)
 ·replace h := bif_t hb1 h
  refine c_seq (rg (sa (B true) rfl (w_end (q_then (c_ret (q_then_r ?_))))))
  obtain rfl := sj h
  exact fin_ret (v := (B true)) (results_ok Tryz.results8 (res_tmp (v := (B true)) rfl res_nil) rfl) ⟨rfl, rfl⟩ (H.sel' [] rfl rfl)
 ·replace h := bif_f hb1 h
  refine c_skip (q_then (c_seq (rg (sm (Sl Ai Ah Aj) rfl ?_))))
  revert h; refine br fun r2 hx3 h => ?_
  have hc4 := c_spec_DrawWalkTo (Ai := Ai) (Aj := Aj) hx3
  refine st_call (cx_call hc4 (ent_f hc4.fn rfl) hn0 (H.sel' [0, 0] rfl rfl : Hp S0 σ0 _ ([_] ++ _))) wn ?_
  rintro _ σ9 ⟨_, ⟨a5, c6, a7, c8, rfl, rfl⟩, H, -⟩
  replace H : Hp _ _ _ [_, _, _] := H
  refine sm (.tuple #[(Sl a5 r2.1 c6), (I r2.2.1), (I r2.2.2.1), (I r2.2.2.2.1), (Sl a7 r2.2.2.2.2 c8)]) rfl (st (v := (Sl a5 r2.1 c6)) (rv_extract rfl rfl) (st (v := (I r2.2.1)) (rv_extract rfl rfl) (st (v := (I r2.2.2.1)) (rv_extract rfl rfl) (st (v := (I r2.2.2.2.1)) (rv_extract rfl rfl) (st (v := (Sl a7 r2.2.2.2.2 c8)) (rv_extract rfl rfl) (sa (Sl a5 r2.1 c6) rfl (sa (I r2.2.1) rfl (sa (I r2.2.2.1) rfl (sa (I r2.2.2.2.1) rfl (sa (Sl a7 r2.2.2.2.2 c8) rfl (w_end ?_)))))))))))
  refine q_then (c_seq (rg (sm (Sl a5 r2.1 c6) rfl (sm (I r2.2.1) rfl (sm (I r2.2.2.1) rfl (sm (I r2.2.2.2.1) rfl (sm (Sl a7 r2.2.2.2.2 c8) rfl ?_)))))))
  replace H := H.roLow 0 0 rfl (Nat.zero_le _)
  revert h; refine br fun r10 hx11 h => ?_
  have hc12 := c_impl_WalkTo (Ba := a5) (Bb := c6) (Hd := a7) (He := c8) hx11
  have hle := Nat.le_trans hn0 H.size
  refine st_call (cx_lend (Loan.same (Loan.lend Loan.nil)) hc12 (ent_f hc12.fn rfl) (show Hp S0 σ0 _ ([Ch.own n0 n0 (Sl a7 r2.2.2.2.2 c8) r2.2.2.2.2] ++ ([Ch.ro 0 (Sl a5 r2.1 c6) r2.1] ++ [Ch.ro 0 (Sl a5 r2.1 c6) r2.1, Ch.ro n0 (Sl a5 r2.1 c6) r2.1, Ch.ro 0 (Sl Ai Ah Aj) Ah])) from (H.sel' [2, 0, 0, 1, 3] rfl rfl)) (by rintro _ _ _ ⟨_, _, rfl, rfl⟩; exact ⟨Ab.ownSc, trivial⟩)) wn ?_
  rintro _ σ15 ⟨_, ⟨a13, c14, rfl, rfl⟩, H, -, -⟩
  replace H : Hp _ _ _ [_, _, _, _, _] := H
  replace H := H.ownLow 0 n0 n0 rfl hle hle
  clear hle
  replace H : Hp _ _ _ [_, _, _, _, _] := H
  refine sm (.tuple #[(Sl a13 r10.1 c14), (B r10.2)]) rfl (st (v := (Sl a13 r10.1 c14)) (rv_extract rfl rfl) (st (v := (B r10.2)) (rv_extract rfl rfl) (sa (Sl a13 r10.1 c14) rfl (sa (B r10.2) rfl (w_end (q_then (c_seq (rg (sm (Sl a5 r2.1 c6) rfl (sm (I r2.2.1) rfl (sm (I r2.2.2.1) rfl ?_)))))))))))
  refine sm (I r2.2.2.2.1) rfl (sm (Sl a7 r2.2.2.2.2 c8) rfl ?_)
  replace H := H.roLow 3 0 rfl (Nat.zero_le _)
  revert h; refine br fun r16 hx17 h => ?_
  have hc18 := c_spec_WalkTo (Ba := a5) (Bb := c6) (Hd := a7) (He := c8) hx17
  have hle := Nat.le_trans hn0 H.size
  refine st_call (cx_lend (Loan.same (Loan.lend Loan.nil)) hc18 (ent_f hc18.fn rfl) (show Hp S0 σ0 _ ([Ch.own n0 n0 (Sl a7 r2.2.2.2.2 c8) r2.2.2.2.2] ++ ([Ch.ro 0 (Sl a5 r2.1 c6) r2.1] ++ [Ch.ro 0 (Sl a5 r2.1 c6) r2.1, Ch.own n0 n0 (Sl a13 r10.1 c14) r10.1, Ch.ro 0 (Sl a5 r2.1 c6) r2.1, Ch.ro n0 (Sl a5 r2.1 c6) r2.1, Ch.ro 0 (Sl Ai Ah Aj) Ah])) from (H.sel' [2, 0, 0, 1, 3, 4, 5] rfl rfl)) (by rintro _ _ _ ⟨_, _, rfl, rfl⟩; exact ⟨Ab.ownSc, trivial⟩)) wn ?_
  rintro _ σ21 ⟨_, ⟨a19, c20, rfl, rfl⟩, H, -, -⟩
  replace H : Hp _ _ _ [_, _, _, _, _, _, _] := H
  replace H := H.ownLow 0 n0 n0 rfl hle hle
  clear hle
  replace H : Hp _ _ _ [_, _, _, _, _, _, _] := H
  refine sm (.tuple #[(Sl a19 r16.1 c20), (B r16.2)]) rfl (st (v := (Sl a19 r16.1 c20)) (rv_extract rfl rfl) (st (v := (B r16.2)) (rv_extract rfl rfl) (sa (Sl a19 r16.1 c20) rfl (sa (B r16.2) rfl (w_end (q_then (c_seq (c_seq ?_))))))))
  obtain ⟨o22, hj, h'⟩ := bind_some h
  clear h
  refine c_cut (fun e a w => e = .normal ∧ ∃ (ρ : Nat → Value) (σ : St), a = fr 92 (updL ρ [(3, (Sl a5 r2.1 c6)), (4, (I r2.2.1)), (5, (I r2.2.2.1)), (7, (Sl a7 r2.2.2.2.2 c8)), (8, (Sl a13 r10.1 c14)), (9, (B r10.2)), (10, (Sl a19 r16.1 c20)), (11, (B r16.2)), (61, (B o22))]) ∧ w = σ.w ∧ Hp S0 σ0 σ [Ch.ro n0 (Sl a5 r2.1 c6) r2.1, Ch.own n0 n0 (Sl a7 r2.2.2.2.2 c8) r2.2.2.2.2, Ch.own n0 n0 (Sl a13 r10.1 c14) r10.1, Ch.own n0 n0 (Sl a19 r16.1 c20) r16.1]) ?_ ?_
  ·clear h'
   rename _ = some o22 => h
   refine rg (sm (Sl a13 r10.1 c14) rfl (sm (Sl a19 r16.1 c20) rfl ?_))
   revert h; refine br fun r23 hx24 h => ?_
   have hc25 := c_laws_equalInts (Ad := a13) (Ae := c14) (Af := a19) (Ag := c20) hx24
   have hle := Nat.le_trans hn0 H.size
   refine st_call (cx_lend (Loan.lend (Loan.lend Loan.nil)) hc25 (ent_f hc25.fn rfl) (show Hp S0 σ0 _ ([Ch.own n0 n0 (Sl a13 r10.1 c14) r10.1, Ch.own n0 n0 (Sl a19 r16.1 c20) r16.1] ++ ([] ++ [Ch.own n0 n0 (Sl a7 r2.2.2.2.2 c8) r2.2.2.2.2, Ch.ro 0 (Sl a5 r2.1 c6) r2.1, Ch.ro 0 (Sl a5 r2.1 c6) r2.1, Ch.ro n0 (Sl a5 r2.1 c6) r2.1, Ch.ro 0 (Sl Ai Ah Aj) Ah])) from (H.sel' [3, 0, 1, 2, 4, 5, 6] rfl rfl)) (by rintro _ _ _ ⟨rfl, rfl⟩; exact trivial)) wn ?_
   rintro _ σ26 ⟨_, ⟨rfl, rfl⟩, H, -, -⟩
   replace H : Hp _ _ _ [_, _, _, _, _, _, _] := H
   clear hle
   replace H : Hp _ _ _ [_, _, _, _, _, _, _] := H
   refine st (v := (B (!r23))) (rv_not rfl) (sm (B (!r23)) rfl ?_)
   rcases Bool.eq_false_or_eq_true (!r23) with hb27 | hb27
   ·replace h := bif_t hb27 h
    refine st_skip (congrArg some hb27) (st_skip (congrArg some hb27) (st_skip (congrArg some hb27) (st (v := (B true)) (rv_pick_t (congrArg B hb27) rfl) (sm (B true) rfl (st_skip rfl (st_skip rfl (st (v := (B true)) (rv_pick_t rfl rfl) (sm (B true) rfl (st_skip rfl (st_skip rfl (st_skip rfl ?_)))))))))))
    refine st (v := (B true)) (rv_pick_t rfl rfl) (w_end ?_)
    obtain rfl := sj h
    exact ⟨rfl, _, σ26, fr_join ⟨rfl, rfl, rfl, rfl, rfl, rfl, rfl, rfl, rfl, trivial⟩, rfl, H.sel' [5, 2, 0, 1] rfl rfl⟩
   ·replace h := bif_f hb27 h
    refine st_g (v := (B r10.2)) (congrArg some hb27) (rv_move rfl) (st_g (v := (B r16.2)) (congrArg some hb27) (rv_move rfl) (st_g (v := (B (r10.2 != r16.2))) (congrArg some hb27) (rv_bneq Tryz.underlying4 rfl rfl) (st (v := (B (r10.2 != r16.2))) (rv_pick_f (congrArg B hb27) rfl) (sm (B (r10.2 != r16.2)) rfl ?_))))
    rcases Bool.eq_false_or_eq_true (r10.2 != r16.2) with hb28 | hb28
    ·replace h := bif_t hb28 h
     refine st_skip (congrArg some hb28) (st_skip (congrArg some hb28) (st (v := (B true)) (rv_pick_t (congrArg B hb28) rfl) (sm (B true) rfl (st_skip rfl (st_skip rfl (st_skip rfl (st (v := (B true)) (rv_pick_t rfl rfl) (w_end ?_))))))))
     obtain rfl := sj h
     exact ⟨rfl, _, σ26, fr_join ⟨rfl, rfl, rfl, rfl, rfl, rfl, rfl, rfl, rfl, trivial⟩, rfl, H.sel' [5, 2, 0, 1] rfl rfl⟩
    ·replace h := bif_f hb28 h
     refine st_g (v := (B r10.2)) (congrArg some hb28) (rv_move rfl) (st_g (v := (B (!r10.2))) (congrArg some hb28) (rv_not rfl) (st (v := (B (!r10.2))) (rv_pick_f (congrArg B hb28) rfl) (sm (B (!r10.2)) rfl ?_)))
     rcases Bool.eq_false_or_eq_true (!r10.2) with hb29 | hb29
     ·replace h := bif_t hb29 h
      refine st_skip (congrArg some hb29) (st_skip (congrArg some hb29) (st_skip (congrArg some hb29) (st (v := (B true)) (rv_pick_t (congrArg B hb29) rfl) (w_end ?_))))
      obtain rfl := sj h
      exact ⟨rfl, _, σ26, fr_join ⟨rfl, rfl, rfl, rfl, rfl, rfl, rfl, rfl, rfl, trivial⟩, rfl, H.sel' [5, 2, 0, 1] rfl rfl⟩
     ·replace h := bif_f hb29 h
      refine st_g (v := (Sl a13 r10.1 c14)) (congrArg some hb29) (rv_move rfl) (st_g (v := (I (r10.1.length : Int))) (congrArg some hb29) (rv_len Tryz.underlying27 rfl) (st_g (v := (B ((r10.1.length : Int) == 0))) (congrArg some hb29) (rv_eql (a := (r10.1.length : Int)) (b := 0) rfl rfl) (st (v := (B ((r10.1.length : Int) == 0))) (rv_pick_f (congrArg B hb29) rfl) (w_end ?_))))
      obtain rfl := sj h
      exact ⟨rfl, _, σ26, fr_join ⟨rfl, rfl, rfl, rfl, rfl, rfl, rfl, rfl, rfl, trivial⟩, rfl, H.sel' [5, 2, 0, 1] rfl rfl⟩
  ·clear hj
   have h := h'
   clear h' H
   rintro e a w ⟨rfl, ρ, σ30, rfl, rfl, H⟩
   refine q_then ?_
   refine cd_cond o22 rfl (fun hb31 => ?_) (fun hb31 => ?_)
   ·replace h := bif_t hb31 h
    refine c_seq (rg (sm (Sl a13 r10.1 c14) rfl (sm (Sl a19 r16.1 c20) rfl ?_)))
    obtain ⟨σ32, hw33, H, -⟩ := H.pub 2 rfl (Nat.le_refl _)
    rw [← hw33]; clear hw33
    obtain ⟨σ34, hw35, H, -⟩ := H.pub 3 rfl (Nat.le_refl _)
    rw [← hw35]; clear hw35
    replace H := H.roLow 1 0 rfl (Nat.zero_le _)
    replace H := H.roLow 1 0 rfl (Nat.zero_le _)
    revert h; refine br fun r36 hx37 h => ?_
    have hc38 := c_laws_equalInts (Ad := a13) (Ae := c14) (Af := a19) (Ag := c20) hx37
    refine st_call (cx_call hc38 (ent_f hc38.fn rfl) hn0 (H.sel' [1, 0, 0, 1, 2, 3, 4, 5] rfl rfl : Hp S0 σ0 _ ([_, _] ++ _))) wn ?_
    rintro _ σ39 ⟨_, ⟨rfl, rfl⟩, H, -⟩
    replace H : Hp _ _ _ [_, _, _, _, _, _] := H
    refine sm (B r36) rfl ?_
    rcases Bool.eq_false_or_eq_true r36 with hb40 | hb40
    ·replace h := bif_t hb40 h
     refine st_g (v := (B r10.2)) (congrArg some hb40) (rv_move rfl) (st_g (v := (B r16.2)) (congrArg some hb40) (rv_move rfl) (st_g (v := (B (r10.2 == r16.2))) (congrArg some hb40) (rv_beql Tryz.underlying4 rfl rfl) (st (v := (B (r10.2 == r16.2))) (rv_pick_t (congrArg B hb40) rfl) (sa (B (r10.2 == r16.2)) rfl (w_end (q_then (c_ret (q_then_r ?_))))))))
     obtain rfl := sj h
     exact fin_ret (v := (B (r10.2 == r16.2))) (results_ok Tryz.results8 (res_tmp (v := (B (r10.2 == r16.2))) rfl res_nil) rfl) ⟨rfl, rfl⟩ (H.sel' [] rfl rfl)
    ·replace h := bif_f hb40 h
     refine st_skip (congrArg some hb40) (st_skip (congrArg some hb40) (st_skip (congrArg some hb40) (st (v := (B false)) (rv_pick_f (congrArg B hb40) rfl) (sa (B false) rfl (w_end (q_then (c_ret (q_then_r ?_))))))))
     obtain rfl := sj h
     exact fin_ret (v := (B false)) (results_ok Tryz.results8 (res_tmp (v := (B false)) rfl res_nil) rfl) ⟨rfl, rfl⟩ (H.sel' [] rfl rfl)
   ·replace h := bif_f hb31 h
    refine c_skip (q_then (c_seq (rg (sm (Sl a13 r10.1 c14) rfl (sm (Sl a13 r10.1 c14) rfl (st (v := (I (r10.1.length : Int))) (rv_len Tryz.underlying27 rfl) (st (v := (I (w64 ((r10.1.length : Int) - 1)))) (rv_sub (a := (r10.1.length : Int)) (b := 1) rfl rfl) ?_)))))))
    revert h; refine br fun x41 hx42 h => ?_
    obtain ⟨b44, o45, hi43, -⟩ := (H.own 2 rfl).ix hx42
    refine st (v := (pt b44 o45)) (rv_ix Tryz.underlying27 ti3 rfl rfl hi43) ?_
    have hc46 := ((H.own 2 rfl).at hx42 hi43).int
    refine st (v := (I x41)) (rv_load1 Tryz.underlying3 rfl rfl hc46) (sa (I x41) rfl (w_end (q_then (c_seq (rg (sm (Sl a5 r2.1 c6) rfl (sm (I r2.2.1) rfl (sm (I r2.2.2.1) rfl (sm (I x41) rfl (sm (Sl a7 r2.2.2.2.2 c8) rfl ?_))))))))))
    obtain ⟨σ47, hw48, H, -⟩ := H.pub 1 rfl (Nat.le_refl _)
    rw [← hw48]; clear hw48
    replace H := H.roLow 1 0 rfl (Nat.zero_le _)
    replace H := H.roLow 1 0 rfl (Nat.zero_le _)
    revert h; refine br fun r49 hx50 h => ?_
    have hc51 := c_impl_WalkTo (Ba := a5) (Bb := c6) (Hd := a7) (He := c8) hx50
    refine st_call (cx_call hc51 (ent_f hc51.fn rfl) hn0 (H.sel' [1, 0, 0, 1, 2, 3, 4, 5] rfl rfl : Hp S0 σ0 _ ([_, _] ++ _))) wn ?_
    rintro _ σ54 ⟨_, ⟨a52, c53, rfl, rfl⟩, H, -⟩
    replace H : Hp _ _ _ [_, _, _, _, _, _, _] := H
    refine sm (.tuple #[(Sl a52 r49.1 c53), (B r49.2)]) rfl (st (v := (Sl a52 r49.1 c53)) (rv_extract rfl rfl) (st (v := (B r49.2)) (rv_extract rfl rfl) (sa (Sl a52 r49.1 c53) rfl (sa (B r49.2) rfl (w_end (q_then (c_seq (rg (sm (B r49.2) rfl (sm (B r49.2) rfl ?_))))))))))
    rcases Bool.eq_false_or_eq_true r49.2 with hb55 | hb55
    ·replace h := bif_t hb55 h
     refine st_g (v := (Sl a52 r49.1 c53)) (congrArg some hb55) (rv_move rfl) (st_g (v := (I x41)) (congrArg some hb55) (rv_move rfl) ?_)
     refine st_ex (ex_buildSlice (el := n0) (xs := ([x41] : List Int)) (ps := [(0, (I x41))]) (cs := [(I x41)]) H hn0 Tryz.underlying27 ti3 rfl rfl (by kernel_rfl) (.cons (c := [(I x41)]) rfl (.nil)) rfl) (wanted_yes rfl (by exact (congrArg some hb55))) ?_
     rintro _ σ57 ⟨b56, rfl, H, -⟩
     replace H : Hp S0 σ0 σ57 [Ch.own n0 n0 (Sl (some ⟨b56, 0, none⟩) ([x41] : List Int) 1) ([x41] : List Int), Ch.own n0 n0 (Sl a52 r49.1 c53) r49.1] := H.sel' [0, 1] rfl rfl
     obtain ⟨σ58, hw59, H, -⟩ := H.pub 1 rfl (Nat.le_refl _)
     rw [← hw59]; clear hw59
     obtain ⟨σ60, hw61, H, -⟩ := H.pub 1 rfl (Nat.le_refl _)
     rw [← hw61]; clear hw61
     replace H := H.roLow 1 0 rfl (Nat.zero_le _)
     replace H := H.roLow 1 0 rfl (Nat.zero_le _)
     revert h; refine br fun r62 hx63 h => ?_
     have hc64 := c_laws_equalInts (Ad := a52) (Ae := c53) (Af := (some ⟨b56, 0, none⟩)) (Ag := 1) hx63
     refine st_call (cx_call hc64 (ent_f hc64.fn rfl) hn0 (H.sel' [1, 0, 0, 1, 2, 3] rfl rfl : Hp S0 σ0 _ ([_, _] ++ _))) (wanted_yes rfl (by exact (congrArg some hb55))) ?_
     rintro _ σ65 ⟨_, ⟨rfl, rfl⟩, H, -⟩
     replace H : Hp _ _ _ [_, _, _, _] := H
     refine st (v := (B r62)) (rv_pick_t (congrArg B hb55) rfl) (sa (B r62) rfl (w_end (q_then (c_ret ?_))))
     obtain rfl := sj h
     exact fin_ret (v := (B r62)) (results_ok Tryz.results8 (res_tmp (v := (B r62)) rfl res_nil) rfl) ⟨rfl, rfl⟩ (H.sel' [] rfl rfl)
    ·replace h := bif_f hb55 h
     refine st_skip (congrArg some hb55) (st_skip (congrArg some hb55) (st_skip (congrArg some hb55) (st_skip (congrArg some hb55) (st (v := (B false)) (rv_pick_f (congrArg B hb55) rfl) (sa (B false) rfl (w_end (q_then (c_ret ?_))))))))
     obtain rfl := sj h
     exact fin_ret (v := (B false)) (results_ok Tryz.results8 (res_tmp (v := (B false)) rfl res_nil) rfl) ⟨rfl, rfl⟩ (H.sel' [] rfl rfl)

end Go.Vs
