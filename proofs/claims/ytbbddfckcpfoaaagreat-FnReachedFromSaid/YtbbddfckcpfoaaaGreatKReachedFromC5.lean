/- The functions compute what their models say. -/
import Derived.Test.YtbbddfckcpfoaaaGreatKReachedFromC4
set_option linter.unusedVariables false
set_option linter.unusedSimpArgs false
set_option maxRecDepth 20000
namespace Go.Vs
open Go Go.Proofs
attribute [local irreducible] Code.wp Code.wpIn wpList wpListIn wpQuiet Calls CallsIn

theorem c_spec_WalkTo {Aa : List (Int × (List Int) × Int)} {Fi : Int} {Fp : Int} {Ha : Int} {Hc : List Int} {Ad : Option Addr} {Ae : Nat} {Hd : Option Addr} {He : Nat} {r : (List Int) × Bool} (h : M.spec_WalkTo Aa Fi Fp Ha Hc = some r) :
    Cal2 Tryz.prog 39 [(Sl Ad Aa Ae), (I Fi), (I Fp), (I Ha), (Sl Hd Hc He)] [Ch.ro 0 (Sl Ad Aa Ae) Aa, Ch.ro 0 (Sl Hd Hc He) Hc] (fun n0 v L => ∃ (az1 : Option Addr), ∃ (cz2 : Nat), v = (.tuple #[(Sl az1 r.1 cz2), (B r.2)]) ∧ L = [Ch.own n0 n0 (Sl az1 r.1 cz2) r.1]) := by
 refine cal2 (n := 91) Tryz.func39 rfl rfl rfl rfl ?_
 intro S0 σ0 n0 hn0 H
 unfold M.spec_WalkTo at h
 refine c_seq (rg (sa (.slice none 0 0) rfl (sa (B false) rfl (w_end (q_then (c_seq (c_seq ?_)))))))
 obtain ⟨o1, hj, h'⟩ := bind_some h
 clear h
 refine c_cut (fun e a w => e = .normal ∧ ∃ (ρ : Nat → Value) (σ : St), a = fr 91 (updL ρ [(0, (Sl Ad Aa Ae)), (1, (I Fi)), (2, (I Fp)), (3, (I Ha)), (4, (Sl Hd Hc He)), (34, (B o1))]) ∧ w = σ.w ∧ Hp S0 σ0 σ [Ch.ro 0 (Sl Ad Aa Ae) Aa, Ch.ro 0 (Sl Hd Hc He) Hc]) ?_ ?_
 ·clear h'
  rename _ = some o1 => h
  refine rg (sm (Sl Ad Aa Ae) rfl (sm (I Fi) rfl (sm (Sl Hd Hc He) rfl ?_)))
  revert h; refine br fun r2 hx3 h => ?_
  have hc4 := c_spec_validQuery (Ad := Ad) (Ae := Ae) (Fl := Hd) (Fm := He) hx3
  refine st_call (cx_call hc4 (ent_f hc4.fn rfl) hn0 (H.sel' [0, 1, 0, 1] rfl rfl : Hp S0 σ0 _ ([_, _] ++ _))) wn ?_
  rintro _ σ5 ⟨_, ⟨rfl, rfl⟩, H, -⟩
  replace H : Hp _ _ _ [_, _] := H
  refine st (v := (B (!r2))) (rv_not rfl) (sm (B (!r2)) rfl ?_)
  rcases Bool.eq_false_or_eq_true (!r2) with hb6 | hb6
  ·replace h := bif_t hb6 h
   refine st_skip (congrArg some hb6) (st_skip (congrArg some hb6) (st_skip (congrArg some hb6) (st (v := (B true)) (rv_pick_t (congrArg B hb6) rfl) (sm (B true) rfl (st_skip rfl (st_skip rfl (st_skip rfl (st_skip rfl (st (v := (B true)) (rv_pick_t rfl rfl) (w_end ?_))))))))))
   obtain rfl := sj h
   exact ⟨rfl, _, σ5, fr_join ⟨rfl, rfl, rfl, rfl, rfl, rfl, trivial⟩, rfl, H.sel' [0, 1] rfl rfl⟩
  ·replace h := bif_f hb6 h
   refine st_g (v := (I Fp)) (congrArg some hb6) (rv_move rfl) ?_
   revert h; refine br fun r7 hx8 h => ?_
   have hc9 := c_spec_inRange hx8
   refine st_call (cx_call hc9 (ent_f hc9.fn rfl) hn0 (H.sel' [0, 1] rfl rfl : Hp S0 σ0 _ ([] ++ _))) (wanted_yes rfl (by exact (congrArg some hb6))) ?_
   rintro _ σ10 ⟨_, ⟨rfl, rfl⟩, H, -⟩
   replace H : Hp _ _ _ [_, _] := H
   refine st_g (v := (B (!r7))) (congrArg some hb6) (rv_not rfl) (st (v := (B (!r7))) (rv_pick_f (congrArg B hb6) rfl) (sm (B (!r7)) rfl ?_))
   rcases Bool.eq_false_or_eq_true (!r7) with hb11 | hb11
   ·replace h := bif_t hb11 h
    refine st_skip (congrArg some hb11) (st_skip (congrArg some hb11) (st_skip (congrArg some hb11) (st_skip (congrArg some hb11) (st (v := (B true)) (rv_pick_t (congrArg B hb11) rfl) (w_end ?_)))))
    obtain rfl := sj h
    exact ⟨rfl, _, σ10, fr_join ⟨rfl, rfl, rfl, rfl, rfl, rfl, trivial⟩, rfl, H.sel' [0, 1] rfl rfl⟩
   ·replace h := bif_f hb11 h
    refine st_g (v := (Sl Ad Aa Ae)) (congrArg some hb11) (rv_move rfl) (st_g (v := (I Ha)) (congrArg some hb11) (rv_move rfl) ?_)
    revert h; refine br fun r12 hx13 h => ?_
    have hc14 := c_spec_keyAt (Ad := Ad) (Ae := Ae) hx13
    refine st_call (cx_call hc14 (ent_f hc14.fn rfl) hn0 (H.sel' [0, 0, 1] rfl rfl : Hp S0 σ0 _ ([_] ++ _))) (wanted_yes rfl (by exact (congrArg some hb11))) ?_
    rintro _ σ15 ⟨_, ⟨rfl, rfl⟩, H, -⟩
    replace H : Hp _ _ _ [_, _] := H
    refine st_g (v := (B (decide (r12 < 0)))) (congrArg some hb11) (rv_lss (a := r12) (b := 0) rfl rfl) (st (v := (B (decide (r12 < 0)))) (rv_pick_f (congrArg B hb11) rfl) (w_end ?_))
    obtain rfl := sj h
    exact ⟨rfl, _, σ15, fr_join ⟨rfl, rfl, rfl, rfl, rfl, rfl, trivial⟩, rfl, H.sel' [0, 1] rfl rfl⟩
 ·clear hj
  have h := h'
  clear h' H
  rintro e a w ⟨rfl, ρ, σ16, rfl, rfl, H⟩
  refine q_then ?_
  refine cd_cond o1 rfl (fun hb17 => ?_) (fun hb17 => ?_)
  ·replace h := bif_t hb17 h
   refine c_seq (rg (sa (.slice none 0 0) rfl (sa (B false) rfl (w_end (q_then (c_ret (q_then_r ?_)))))))
   replace H := H.nilOwn Int n0 n0
   obtain rfl := sj h
   exact fin_ret (v := (.tuple #[(.slice none 0 0), (B false)])) (results_ok Tryz.results39 (res_tmp (v := (.slice none 0 0)) rfl (res_tmp (v := (B false)) rfl res_nil)) rfl) ⟨none, 0, rfl, rfl⟩ (H.sel' [0] rfl rfl)
  ·replace h := bif_f hb17 h
   refine c_skip (q_then (c_seq (rg (sm (Sl Ad Aa Ae) rfl (sm (I Fi) rfl (sm (I Fp) rfl ?_))))))
   revert h; refine br fun r18 hx19 h => ?_
   have hc20 := c_spec_links (Ad := Ad) (Ae := Ae) hx19
   refine st_call (cx_call hc20 (ent_f hc20.fn rfl) hn0 (H.sel' [0, 0, 1] rfl rfl : Hp S0 σ0 _ ([_] ++ _))) wn ?_
   rintro _ σ23 ⟨_, ⟨a21, c22, rfl, rfl⟩, H, -⟩
   replace H : Hp _ _ _ [_, _, _] := H
   refine sa (Sl a21 r18 c22) rfl (w_end (q_then (c_seq (rg (sm (Sl Ad Aa Ae) rfl (sm (Sl Ad Aa Ae) rfl (sm (I Ha) rfl ?_)))))))
   revert h; refine br fun r24 hx25 h => ?_
   have hc26 := c_spec_keyAt (Ad := Ad) (Ae := Ae) hx25
   refine st_call (cx_call hc26 (ent_f hc26.fn rfl) hn0 (H.sel' [1, 0, 1, 2] rfl rfl : Hp S0 σ0 _ ([_] ++ _))) wn ?_
   rintro _ σ27 ⟨_, ⟨rfl, rfl⟩, H, -⟩
   replace H : Hp _ _ _ [_, _, _] := H
   revert h; refine br fun x28 hx29 h => ?_
   obtain ⟨b31, o32, hi30, -⟩ := (H.ro 1 rfl).ix hx29
   refine st (v := (pt b31 o32)) (rv_ix Tryz.underlying26 ti34 rfl rfl hi30) ?_
   obtain ⟨_, ⟨_, _, rfl, rfl, ⟨_, _, rfl, ⟨_, rfl, hR37⟩, rfl⟩⟩, hl33, hc34⟩ := ((H.ro 1 rfl).at hx29 hi30).cells
   obtain ⟨a35, c36, rfl⟩ := hR37.isSl
   replace H := H.add (d := Ch.ro 0 (Sl a35 x28.2.1 c36) x28.2.1) hR37 (fun _ h => h)
   clear hR37
   refine st (v := (.agg #[(I x28.1), (Sl a35 x28.2.1 c36), (I x28.2.2)])) (rv_load Tryz.underlying34 rfl ti34 rfl hl33 hc34) (sm (I Fi) rfl (sm (Sl Hd Hc He) rfl ?_))
   revert h; refine br fun r38 hx39 h => ?_
   have hc40 := c_spec_hit (Bk := a35) (Bl := c36) (Fl := Hd) (Fm := He) hx39
   refine st_call (cx_call hc40 (ent_f hc40.fn rfl) hn0 (H.sel' [0, 3, 0, 1, 2, 3] rfl rfl : Hp S0 σ0 _ ([_, _] ++ _))) wn ?_
   rintro _ σ41 ⟨_, ⟨rfl, rfl⟩, H, -⟩
   replace H : Hp _ _ _ [_, _, _, _] := H
   refine st_ex (ex_alloc (cs := [(I 0), (I 0)]) H hn0 ti43 rfl) wn ?_
   rintro _ σ43 ⟨b42, rfl, H, -⟩
   refine st_exS (ex_store_box (k := 0) (cs := [(I 0), (I 0)]) (vs := [(I r38.1), (I r38.2)]) (cs' := [(I r38.1), (I r38.2)]) H (i := 0) rfl ti43 rfl rfl rfl rfl rfl (Nat.le_of_ble_eq_true rfl) (by simp [plain]) rfl) wn ?_
   rintro σ44 ⟨H, -⟩
   refine w_end (q_then (c_seq (rg (st (v := (pt b42 0)) (rv_fieldAddr (off := 0) (ft := 3) Tryz.underlying43 rfl ti3 rfl rfl) ?_))))
   have hc45 := H.cell (u := (I r38.1)) (o' := 0) 0 0 rfl rfl rfl
   refine st (v := (I r38.1)) (rv_load1 Tryz.underlying3 rfl rfl hc45) ?_
   refine st_ex (ex_buildSlice (el := n0) (xs := ([r38.1] : List Int)) (ps := [(0, (I r38.1))]) (cs := [(I r38.1)]) H hn0 Tryz.underlying27 ti3 rfl rfl (by kernel_rfl) (.cons (c := [(I r38.1)]) rfl (.nil)) rfl) wn ?_
   rintro _ σ47 ⟨b46, rfl, H, -⟩
   refine sa (Sl (some ⟨b46, 0, none⟩) ([r38.1] : List Int) 1) rfl (w_end (q_then ?_))
   obtain ⟨o48, hj, h'⟩ := bind_some h
   clear h
   refine c_cut (fun e a w => e = .ret ∧ ∃ (ρ : Nat → Value) (σ : St) (aj1 : Option Addr) (cj2 : Nat), a = fr 91 (updL ρ [(10, (Sl aj1 o48.1 cj2)), (11, (B o48.2))]) ∧ w = σ.w ∧ Hp S0 σ0 σ [Ch.own n0 n0 (Sl aj1 o48.1 cj2) o48.1]) ?_ ?_
   ·clear h'
    rename _ = some o48 => h
    refine c_blk (wp_loopM _ h (fun s49 a w => ∃ (ρ : Nat → Value) (σ : St) (aj1 : Option Addr) (cj2 : Nat), a = fr 91 (updL ρ [(0, (Sl Ad Aa Ae)), (1, (I Fi)), (4, (Sl Hd Hc He)), (12, (Sl a21 r18 c22)), (13, (pt b42 0)), (14, (Sl aj1 s49.2 cj2))]) ∧ w = σ.w ∧ Hp S0 σ0 σ [Ch.bx n0 b42 0 [(I s49.1.1), (I s49.1.2)] [] [], Ch.ro 0 (Sl Ad Aa Ae) Aa, Ch.ro 0 (Sl Hd Hc He) Hc, Ch.own n0 n0 (Sl a21 r18 c22) r18, Ch.own n0 n0 (Sl aj1 s49.2 cj2) s49.2]) ⟨_, σ47, (some ⟨b46, 0, none⟩), 1, fr_join ⟨rfl, rfl, rfl, rfl, rfl, rfl, trivial⟩, rfl, H.sel' [1, 4, 5, 3, 0] rfl rfl⟩ ?_)
    clear h H
    rintro s49 a w o ⟨ρ, σ50, a51, c52, rfl, rfl, H⟩ h hres
    refine c_blk (c_seq (rg ?_))
    have hc53 := H.cells 0 rfl
    refine st (v := (.agg #[(I s49.1.1), (I s49.1.2)])) (rv_load (cs := [(I s49.1.1), (I s49.1.2)]) Tryz.underlying43 rfl ti43 rfl rfl hc53) (st_ex (ex_alloc (cs := [(I 0), (I 0)]) H hn0 ti43 rfl) wn ?_)
    rintro _ σ55 ⟨b54, rfl, H, -⟩
    refine st_exS (ex_store_box (k := 0) (cs := [(I 0), (I 0)]) (vs := [(I s49.1.1), (I s49.1.2)]) (cs' := [(I s49.1.1), (I s49.1.2)]) H (i := 0) rfl ti43 rfl rfl rfl rfl rfl (Nat.le_of_ble_eq_true rfl) (by simp [plain]) rfl) wn ?_
    rintro σ56 ⟨H, -⟩
    refine w_end (q_then (c_seq (rg (sm (Sl a21 r18 c22) rfl (sm (Sl Ad Aa Ae) rfl (st (v := (pt b42 0)) (rv_fieldAddr (off := 0) (ft := 3) Tryz.underlying43 rfl ti3 rfl rfl) ?_))))))
    have hc57 := H.cell (u := (I s49.1.1)) (o' := 0) 1 0 rfl rfl rfl
    refine st (v := (I s49.1.1)) (rv_load1 Tryz.underlying3 rfl rfl hc57) ?_
    revert h; refine br fun r58 hx59 h => ?_
    have hc60 := c_spec_keyAt (Ad := Ad) (Ae := Ae) hx59
    refine st_call (cx_call hc60 (ent_f hc60.fn rfl) hn0 (H.sel' [2, 0, 1, 2, 3, 4, 5] rfl rfl : Hp S0 σ0 _ ([_] ++ _))) wn ?_
    rintro _ σ61 ⟨_, ⟨rfl, rfl⟩, H, -⟩
    replace H : Hp _ _ _ [_, _, _, _, _, _] := H
    revert h; refine br fun x62 hx63 h => ?_
    obtain ⟨b65, o66, hi64, -⟩ := (H.own 4 rfl).ix hx63
    refine st (v := (pt b65 o66)) (rv_ix Tryz.underlying23 ti27 rfl rfl hi64) ?_
    obtain ⟨v70, hc71, hR69⟩ := ((H.own 4 rfl).at hx63 hi64).slice
    obtain ⟨a67, c68, rfl⟩ := hR69.isSl
    replace H := H.add (d := Ch.ro n0 (Sl a67 x62 c68) x62) hR69 (fun _ h => h)
    clear hR69
    refine st (v := (Sl a67 x62 c68)) (rv_load1 Tryz.underlying27 rfl rfl hc71) (sa (Sl a67 x62 c68) rfl (w_end (q_then (c_seq (c_seq (rg (sa (I 0) rfl (w_end (q_then ?_)))))))))
    obtain ⟨o72, hj, h'⟩ := bind_some h
    clear h
    refine c_cut (fun e a w => e = .normal ∧ ∃ (ρ : Nat → Value) (σ : St), a = fr 91 (updL ρ [(0, (Sl Ad Aa Ae)), (1, (I Fi)), (4, (Sl Hd Hc He)), (12, (Sl a21 r18 c22)), (13, (pt b42 0)), (14, (Sl a51 s49.2 c52)), (15, (pt b54 0))]) ∧ w = σ.w ∧ Hp S0 σ0 σ [Ch.bx n0 b54 0 [(I o72.1), (I o72.2)] [] [], Ch.ro 0 (Sl Ad Aa Ae) Aa, Ch.ro 0 (Sl Hd Hc He) Hc, Ch.own n0 n0 (Sl a21 r18 c22) r18, Ch.bx n0 b42 0 [(I s49.1.1), (I s49.1.2)] [] [], Ch.own n0 n0 (Sl a51 s49.2 c52) s49.2]) ?_ ?_
    ·clear h'
     rename _ = some o72 => h
     refine c_blk (wp_loopM _ h (fun s73 a w => ∃ (ρ : Nat → Value) (σ : St), a = fr 91 (updL ρ [(0, (Sl Ad Aa Ae)), (1, (I Fi)), (4, (Sl Hd Hc He)), (12, (Sl a21 r18 c22)), (13, (pt b42 0)), (14, (Sl a51 s49.2 c52)), (15, (pt b54 0)), (16, (Sl a67 x62 c68)), (17, (I s73.2))]) ∧ w = σ.w ∧ Hp S0 σ0 σ [Ch.bx n0 b54 0 [(I s73.1.1), (I s73.1.2)] [] [], Ch.ro 0 (Sl Ad Aa Ae) Aa, Ch.ro 0 (Sl Hd Hc He) Hc, Ch.own n0 n0 (Sl a21 r18 c22) r18, Ch.bx n0 b42 0 [(I s49.1.1), (I s49.1.2)] [] [], Ch.own n0 n0 (Sl a51 s49.2 c52) s49.2, Ch.ro n0 (Sl a67 x62 c68) x62]) ⟨_, σ61, fr_join ⟨rfl, rfl, rfl, rfl, rfl, rfl, rfl, rfl, rfl, trivial⟩, rfl, H.sel' [1, 3, 4, 5, 2, 6, 0] rfl rfl⟩ ?_)
     clear h H
     rintro s73 a w o ⟨ρ, σ74, rfl, rfl, H⟩ h hres
     refine c_seq (c_seq (rg (sm (I s73.2) rfl (sm (Sl a67 x62 c68) rfl (st (v := (I (x62.length : Int))) (rv_len Tryz.underlying27 rfl) (st (v := (B (decide (s73.2 < (x62.length : Int))))) (rv_lss (a := s73.2) (b := (x62.length : Int)) rfl rfl) (w_end (q_then ?_))))))))
     refine cd_cond (decide (s73.2 < (x62.length : Int))) rfl (fun hb75 => ?_) (fun hb75 => ?_)
     ·replace h := bif_t hb75 h
      refine c_skip (q_then (c_seq ?_))
      obtain ⟨o76, hj, h'⟩ := bind_some h
      clear h
      refine c_cut (fun e a w => e = .normal ∧ ∃ (ρ : Nat → Value) (σ : St), a = fr 91 (updL ρ [(0, (Sl Ad Aa Ae)), (1, (I Fi)), (4, (Sl Hd Hc He)), (12, (Sl a21 r18 c22)), (13, (pt b42 0)), (14, (Sl a51 s49.2 c52)), (15, (pt b54 0)), (16, (Sl a67 x62 c68)), (17, (I s73.2))]) ∧ w = σ.w ∧ Hp S0 σ0 σ [Ch.bx n0 b54 0 [(I o76.1), (I o76.2)] [] [], Ch.ro 0 (Sl Ad Aa Ae) Aa, Ch.ro 0 (Sl Hd Hc He) Hc, Ch.own n0 n0 (Sl a21 r18 c22) r18, Ch.bx n0 b42 0 [(I s49.1.1), (I s49.1.2)] [] [], Ch.own n0 n0 (Sl a51 s49.2 c52) s49.2, Ch.ro n0 (Sl a67 x62 c68) x62]) ?_ ?_
      ·clear h'
       rename _ = some o76 => h
       refine c_blk (c_seq (rg (sm (Sl Ad Aa Ae) rfl (sm (Sl Ad Aa Ae) rfl (sm (Sl a67 x62 c68) rfl (sm (I s73.2) rfl ?_))))))
       revert h; refine br fun x77 hx78 h => ?_
       obtain ⟨b80, o81, hi79, -⟩ := (H.ro 6 rfl).ix hx78
       refine st (v := (pt b80 o81)) (rv_ix Tryz.underlying27 ti3 rfl rfl hi79) ?_
       have hc82 := ((H.ro 6 rfl).at hx78 hi79).int
       refine st (v := (I x77)) (rv_load1 Tryz.underlying3 rfl rfl hc82) ?_
       revert h; refine br fun r83 hx84 h => ?_
       have hc85 := c_spec_keyAt (Ad := Ad) (Ae := Ae) hx84
       refine st_call (cx_call hc85 (ent_f hc85.fn rfl) hn0 (H.sel' [1, 0, 1, 2, 3, 4, 5, 6] rfl rfl : Hp S0 σ0 _ ([_] ++ _))) wn ?_
       rintro _ σ86 ⟨_, ⟨rfl, rfl⟩, H, -⟩
       replace H : Hp _ _ _ [_, _, _, _, _, _, _] := H
       revert h; refine br fun x87 hx88 h => ?_
       obtain ⟨b90, o91, hi89, -⟩ := (H.ro 1 rfl).ix hx88
       refine st (v := (pt b90 o91)) (rv_ix Tryz.underlying26 ti34 rfl rfl hi89) ?_
       obtain ⟨_, ⟨_, _, rfl, rfl, ⟨_, _, rfl, ⟨_, rfl, hR96⟩, rfl⟩⟩, hl92, hc93⟩ := ((H.ro 1 rfl).at hx88 hi89).cells
       obtain ⟨a94, c95, rfl⟩ := hR96.isSl
       replace H := H.add (d := Ch.ro 0 (Sl a94 x87.2.1 c95) x87.2.1) hR96 (fun _ h => h)
       clear hR96
       refine st (v := (.agg #[(I x87.1), (Sl a94 x87.2.1 c95), (I x87.2.2)])) (rv_load Tryz.underlying34 rfl ti34 rfl hl92 hc93) (sm (I Fi) rfl (sm (Sl Hd Hc He) rfl ?_))
       revert h; refine br fun r97 hx98 h => ?_
       have hc99 := c_spec_hit (Bk := a94) (Bl := c95) (Fl := Hd) (Fm := He) hx98
       refine st_call (cx_call hc99 (ent_f hc99.fn rfl) hn0 (H.sel' [0, 3, 0, 1, 2, 3, 4, 5, 6, 7] rfl rfl : Hp S0 σ0 _ ([_, _] ++ _))) wn ?_
       rintro _ σ100 ⟨_, ⟨rfl, rfl⟩, H, -⟩
       replace H : Hp _ _ _ [_, _, _, _, _, _, _, _] := H
       replace H : Hp S0 σ0 σ100 [Ch.bx n0 b54 0 [(I s73.1.1), (I s73.1.2)] [] [], Ch.ro 0 (Sl Ad Aa Ae) Aa, Ch.ro 0 (Sl Hd Hc He) Hc, Ch.own n0 n0 (Sl a21 r18 c22) r18, Ch.bx n0 b42 0 [(I s49.1.1), (I s49.1.2)] [] [], Ch.own n0 n0 (Sl a51 s49.2 c52) s49.2, Ch.ro n0 (Sl a67 x62 c68) x62] := H.sel' [1, 2, 3, 4, 5, 6, 7] rfl rfl
       refine st_ex (ex_alloc (cs := [(I 0), (I 0)]) H hn0 ti43 rfl) wn ?_
       rintro _ σ102 ⟨b101, rfl, H, -⟩
       refine st_exS (ex_store_box (k := 0) (cs := [(I 0), (I 0)]) (vs := [(I r97.1), (I r97.2)]) (cs' := [(I r97.1), (I r97.2)]) H (i := 0) rfl ti43 rfl rfl rfl rfl rfl (Nat.le_of_ble_eq_true rfl) (by simp [plain]) rfl) wn ?_
       rintro σ103 ⟨H, -⟩
       refine w_end (q_then (c_seq (rg ?_)))
       have hc104 := H.cells 0 rfl
       refine st (v := (.agg #[(I r97.1), (I r97.2)])) (rv_load (cs := [(I r97.1), (I r97.2)]) Tryz.underlying43 rfl ti43 rfl rfl hc104) ?_
       have hc105 := H.cells 1 rfl
       refine st (v := (.agg #[(I s73.1.1), (I s73.1.2)])) (rv_load (cs := [(I s73.1.1), (I s73.1.2)]) Tryz.underlying43 rfl ti43 rfl rfl hc105) ?_
       revert h; refine br fun r106 hx107 h => ?_
       have hc108 := c_spec_nearer hx107
       refine st_call (cx_call hc108 (ent_f hc108.fn rfl) hn0 (H.sel' [0, 1, 2, 3, 4, 5, 6, 7] rfl rfl : Hp S0 σ0 _ ([] ++ _))) wn ?_
       rintro _ σ109 ⟨_, ⟨rfl, rfl⟩, H, -⟩
       replace H : Hp _ _ _ [_, _, _, _, _, _, _, _] := H
       refine w_end (q_then ?_)
       refine cd_cond r106 rfl (fun hb110 => ?_) (fun hb110 => ?_)
       ·replace h := bif_t hb110 h
        refine rg ?_
        have hc111 := H.cells 0 rfl
        refine st (v := (.agg #[(I r97.1), (I r97.2)])) (rv_load (cs := [(I r97.1), (I r97.2)]) Tryz.underlying43 rfl ti43 rfl rfl hc111) ?_
        refine st_exS (ex_store_box (k := 0) (cs := [(I s73.1.1), (I s73.1.2)]) (vs := [(I r97.1), (I r97.2)]) (cs' := [(I r97.1), (I r97.2)]) H (i := 1) rfl ti43 rfl rfl rfl rfl rfl (Nat.le_of_ble_eq_true rfl) (by simp [plain]) rfl) wn ?_
        rintro σ112 ⟨H, -⟩
        replace H : Hp S0 σ0 σ112 [Ch.bx n0 b54 0 [(I r97.1), (I r97.2)] [] [], Ch.ro 0 (Sl Ad Aa Ae) Aa, Ch.ro 0 (Sl Hd Hc He) Hc, Ch.own n0 n0 (Sl a21 r18 c22) r18, Ch.bx n0 b42 0 [(I s49.1.1), (I s49.1.2)] [] [], Ch.own n0 n0 (Sl a51 s49.2 c52) s49.2, Ch.ro n0 (Sl a67 x62 c68) x62] := H.sel' [0, 2, 3, 4, 5, 6, 7] rfl rfl
        refine w_end (q_blk ?_)
        obtain rfl := sj h
        exact ⟨rfl, _, σ112, fr_join ⟨rfl, rfl, rfl, rfl, rfl, rfl, rfl, rfl, rfl, trivial⟩, rfl, H.sel' [0, 1, 2, 3, 4, 5, 6] rfl rfl⟩
       ·replace h := bif_f hb110 h
        refine c_skip (q_blk ?_)
        obtain rfl := sj h
        exact ⟨rfl, _, σ109, fr_join ⟨rfl, rfl, rfl, rfl, rfl, rfl, rfl, rfl, rfl, trivial⟩, rfl, H.sel' [1, 2, 3, 4, 5, 6, 7] rfl rfl⟩
      ·clear hj
       have h := h'
       clear h' H
       rintro e a w ⟨rfl, ρ, σ113, rfl, rfl, H⟩
       refine q_then (rg (sm (I s73.2) rfl (st (v := (I (w64 (s73.2 + 1)))) (rv_add (a := s73.2) (b := 1) rfl rfl) (sa (I (w64 (s73.2 + 1))) rfl (w_end (q_then ?_))))))
       obtain rfl := sj h
       exact ⟨_, rfl, _, σ113, fr_join ⟨rfl, rfl, rfl, rfl, rfl, rfl, rfl, rfl, rfl, trivial⟩, rfl, H.sel' [0, 1, 2, 3, 4, 5, 6] rfl rfl⟩
     ·replace h := bif_f hb75 h
      refine c_exit (q_then_x (q_then_x (q_blk_hit ?_)))
      obtain rfl := sj h
      obtain rfl := hres _ rfl
      exact ⟨rfl, _, σ74, fr_join ⟨rfl, rfl, rfl, rfl, rfl, rfl, rfl, trivial⟩, rfl, H.sel' [0, 1, 2, 3, 4, 5] rfl rfl⟩
    ·clear hj
     have h := h'
     clear h' H
     rintro e a w ⟨rfl, ρ, σ114, rfl, rfl, H⟩
     refine q_then (c_seq (c_seq (rg ?_)))
     have hc115 := H.cells 0 rfl
     refine st (v := (.agg #[(I o72.1), (I o72.2)])) (rv_load (cs := [(I o72.1), (I o72.2)]) Tryz.underlying43 rfl ti43 rfl rfl hc115) ?_
     have hc116 := H.cells 4 rfl
     refine st (v := (.agg #[(I s49.1.1), (I s49.1.2)])) (rv_load (cs := [(I s49.1.1), (I s49.1.2)]) Tryz.underlying43 rfl ti43 rfl rfl hc116) ?_
     refine st (v := (B (([o72.1, o72.2] : List Int) == ([s49.1.1, s49.1.2] : List Int)))) (rv_eqlI (xs := ([o72.1, o72.2] : List Int)) (ys := ([s49.1.1, s49.1.2] : List Int)) (by kernel_rfl) (by kernel_rfl) (by kernel_rfl) rfl (by kernel_rfl) (by exact intfs43) rfl rfl) ?_
     refine w_end (q_then ?_)
     refine cd_cond (([o72.1, o72.2] : List Int) == ([s49.1.1, s49.1.2] : List Int)) rfl (fun hb117 => ?_) (fun hb117 => ?_)
     ·replace h := bif_t hb117 h
      refine c_seq (rg (sm (Sl a51 s49.2 c52) rfl (sa (Sl a51 s49.2 c52) rfl (sa (B true) rfl (w_end (q_then (c_ret (q_then_r (q_blk_r (q_then_r (q_blk_r ?_)))))))))))
      obtain rfl := sj h
      obtain rfl := hres _ rfl
      exact ⟨rfl, _, σ114, a51, c52, fr_join ⟨rfl, rfl, trivial⟩, rfl, H.sel' [5] rfl rfl⟩
     ·replace h := bif_f hb117 h
      refine c_skip (q_then (c_seq (rg ?_)))
      have hc118 := H.cells 0 rfl
      refine st (v := (.agg #[(I o72.1), (I o72.2)])) (rv_load (cs := [(I o72.1), (I o72.2)]) Tryz.underlying43 rfl ti43 rfl rfl hc118) ?_
      refine st_exS (ex_store_box (k := 0) (cs := [(I s49.1.1), (I s49.1.2)]) (vs := [(I o72.1), (I o72.2)]) (cs' := [(I o72.1), (I o72.2)]) H (i := 4) rfl ti43 rfl rfl rfl rfl rfl (Nat.le_of_ble_eq_true rfl) (by simp [plain]) rfl) wn ?_
      rintro σ119 ⟨H, -⟩
      refine w_end (q_then (rg (sm (Sl a51 s49.2 c52) rfl (st (v := (pt b42 0)) (rv_fieldAddr (off := 0) (ft := 3) Tryz.underlying43 rfl ti3 rfl rfl) ?_))))
      have hc120 := H.cell (u := (I o72.1)) (o' := 0) 0 0 rfl rfl rfl
      refine st (v := (I o72.1)) (rv_load1 Tryz.underlying3 rfl rfl hc120) ?_
      refine st_ex (ex_buildSlice (el := n0) (xs := ([o72.1] : List Int)) (ps := [(0, (I o72.1))]) (cs := [(I o72.1)]) H hn0 Tryz.underlying27 ti3 rfl rfl (by kernel_rfl) (.cons (c := [(I o72.1)]) rfl (.nil)) rfl) wn ?_
      rintro _ σ122 ⟨b121, rfl, H, -⟩
      revert h; refine br fun xs123 hx124 h => ?_
      refine st_ex (ex_append H (i := 6) rfl Tryz.underlying27 Tryz.underlying27 ti3 rfl rfl (by decide) (H.own 0 rfl).rd hx124 hn0 rfl rfl) wn ?_
      rintro _ σ127 ⟨a125, c126, rfl, H, -⟩
      refine sa (Sl a125 xs123 c126) rfl (w_end (q_blk (q_then ?_)))
      obtain rfl := sj h
      exact ⟨_, rfl, _, σ127, a125, c126, fr_join ⟨rfl, rfl, rfl, rfl, rfl, rfl, trivial⟩, rfl, H.sel' [2, 4, 5, 6, 0] rfl rfl⟩
   ·clear hj
    have h := h'
    clear h' H
    rintro e a w ⟨rfl, ρ, σ128, a129, c130, rfl, rfl, H⟩
    obtain rfl := sj h
    exact fin_ret (v := (.tuple #[(Sl a129 o48.1 c130), (B o48.2)])) (results_ok Tryz.results39 (res_tmp (v := (Sl a129 o48.1 c130)) rfl (res_tmp (v := (B o48.2)) rfl res_nil)) rfl) ⟨a129, c130, rfl, rfl⟩ (H.sel' [0] rfl rfl)

theorem c_slices_Index_int_int {Ct : List Int} {Hi : Int} {Cu : Option Addr} {Cv : Nat} {r : Int} (h : M.slices_Index_int_int Ct Hi = some r) :
    Cal2 Tryz.prog 129 [(Sl Cu Ct Cv), (I Hi)] [Ch.ro 0 (Sl Cu Ct Cv) Ct] (fun n0 v L => v = (I r) ∧ L = []) := by
 refine cal2 (n := 19) Tryz.func129 rfl rfl rfl rfl ?_
 intro S0 σ0 n0 hn0 H
 unfold M.slices_Index_int_int at h
 refine c_seq (rg (sa (I 0) rfl (w_end (q_then (c_seq (c_seq (rg (sm (Sl Cu Ct Cv) rfl (st (v := (I (Ct.length : Int))) (rv_len Tryz.underlying27 rfl) (sm (I 0) rfl (w_end ?_)))))))))))
 refine q_then ?_
 obtain ⟨o1, hj, h'⟩ := bind_some h
 clear h
 refine c_cut (fun e a w => (∃ t, o1 = (.inl t) ∧ e = .normal ∧ ∃ (ρ : Nat → Value) (σ : St), a = fr 19 (updL ρ []) ∧ w = σ.w ∧ Hp S0 σ0 σ []) ∨ (∃ t, o1 = (.inr t) ∧ e = .ret ∧ ∃ (ρ : Nat → Value) (σ : St), a = fr 19 (updL ρ [(4, (I t))]) ∧ w = σ.w ∧ Hp S0 σ0 σ [])) ?_ ?_
 ·clear h'
  rename _ = some o1 => h
  refine c_blk (wp_loopM _ h (fun s2 a w => ∃ (ρ : Nat → Value) (σ : St), a = fr 19 (updL ρ [(0, (Sl Cu Ct Cv)), (1, (I Hi)), (7, (I (Ct.length : Int))), (8, (I s2))]) ∧ w = σ.w ∧ Hp S0 σ0 σ [Ch.ro 0 (Sl Cu Ct Cv) Ct]) ⟨_, σ0, fr_join ⟨rfl, rfl, rfl, rfl, trivial⟩, rfl, H.sel' [0] rfl rfl⟩ ?_)
  clear h H
  rintro s2 a w o ⟨ρ, σ3, rfl, rfl, H⟩ h hres
  refine c_seq (rg (st (v := (B (decide (s2 < (Ct.length : Int))))) (rv_lss (a := s2) (b := (Ct.length : Int)) rfl rfl) (w_end (q_then (c_seq ?_)))))
  refine cd_cond (decide (s2 < (Ct.length : Int))) rfl (fun hb4 => ?_) (fun hb4 => ?_)
  ·replace h := bif_t hb4 h
   refine c_skip (q_then (c_seq (c_blk (c_seq (rg (sm (I s2) rfl (sa (I s2) rfl (w_end (q_then (c_seq (rg ?_)))))))))))
   refine sm (I Hi) rfl (sm (Sl Cu Ct Cv) rfl (sm (I s2) rfl ?_))
   revert h; refine br fun x5 hx6 h => ?_
   obtain ⟨b8, o9, hi7, -⟩ := (H.ro 0 rfl).ix hx6
   refine st (v := (pt b8 o9)) (rv_ix Tryz.underlying27 ti3 rfl rfl hi7) ?_
   have hc10 := ((H.ro 0 rfl).at hx6 hi7).int
   refine st (v := (I x5)) (rv_load1 Tryz.underlying3 rfl rfl hc10) (st (v := (B (Hi == x5))) (rv_eql (a := Hi) (b := x5) rfl rfl) (w_end (q_then ?_)))
   refine cd_cond (Hi == x5) rfl (fun hb11 => ?_) (fun hb11 => ?_)
   ·replace h := bif_t hb11 h
    refine c_seq (rg (sm (I s2) rfl (sa (I s2) rfl (w_end (q_then (c_ret (q_blk_r (q_then_r (q_then_r (q_blk_r ?_))))))))))
    obtain rfl := sj h
    obtain rfl := hres _ rfl
    exact .inr (⟨_, rfl, rfl, _, σ3, fr_join ⟨rfl, trivial⟩, rfl, H.sel' [] rfl rfl⟩)
   ·replace h := bif_f hb11 h
    refine c_skip (q_blk (q_then (rg (st (v := (I (w64 (s2 + 1)))) (rv_add (a := s2) (b := 1) rfl rfl) (sm (I (w64 (s2 + 1))) rfl (w_end (q_then ?_)))))))
    obtain rfl := sj h
    exact ⟨_, rfl, _, σ3, fr_join ⟨rfl, rfl, rfl, rfl, trivial⟩, rfl, H.sel' [0] rfl rfl⟩
  ·replace h := bif_f hb4 h
   refine c_exit (q_then_x (q_then_x (q_blk_hit ?_)))
   obtain rfl := sj h
   obtain rfl := hres _ rfl
   exact .inl ⟨_, rfl, rfl, _, σ3, fr_join trivial, rfl, H.sel' [] rfl rfl⟩
 ·clear hj
  have h := h'
  clear h' H
  rintro e a w (⟨t12, rfl, rfl, ρ, σ13, rfl, rfl, H⟩ | ⟨t14, rfl, rfl, ρ, σ15, rfl, rfl, H⟩)
  ·replace h := selim_l h
   refine q_then (c_seq (rg (sa (I (-1)) rfl (w_end (q_then (c_ret ?_))))))
   obtain rfl := sj h
   exact fin_ret (v := (I (-1))) (results_ok Tryz.results129 (res_tmp (v := (I (-1))) rfl res_nil) rfl) ⟨rfl, rfl⟩ (H.sel' [] rfl rfl)
  ·replace h := selim_r h
   refine q_then_r ?_
   obtain rfl := sj h
   exact fin_ret (v := (I t14)) (results_ok Tryz.results129 (res_tmp (v := (I t14)) rfl res_nil) rfl) ⟨rfl, rfl⟩ (H.sel' [] rfl rfl)

theorem c_slices_Contains_int_int {Ct : List Int} {Hi : Int} {Cu : Option Addr} {Cv : Nat} {r : Bool} (h : M.slices_Contains_int_int Ct Hi = some r) :
    Cal2 Tryz.prog 101 [(Sl Cu Ct Cv), (I Hi)] [Ch.ro 0 (Sl Cu Ct Cv) Ct] (fun n0 v L => v = (B r) ∧ L = []) := by
 refine cal2 (n := 9) Tryz.func101 rfl rfl rfl rfl ?_
 intro S0 σ0 n0 hn0 H
 unfold M.slices_Contains_int_int at h
 refine c_seq (rg (sa (B false) rfl (w_end (q_then (c_seq (rg (sm (Sl Cu Ct Cv) rfl (sm (I Hi) rfl ?_))))))))
 revert h; refine br fun r1 hx2 h => ?_
 have hc3 := c_slices_Index_int_int (Cu := Cu) (Cv := Cv) hx2
 refine st_call (cx_call hc3 (ent_f hc3.fn rfl) hn0 (H.sel' [0, 0] rfl rfl : Hp S0 σ0 _ ([_] ++ _))) wn ?_
 rintro _ σ4 ⟨_, ⟨rfl, rfl⟩, H, -⟩
 replace H : Hp _ _ _ [_] := H
 refine st (v := (B (decide (0 ≤ r1)))) (rv_geq (a := r1) (b := 0) rfl rfl) (sa (B (decide (0 ≤ r1))) rfl (w_end (q_then (c_ret ?_))))
 obtain rfl := sj h
 exact fin_ret (v := (B (decide (0 ≤ r1)))) (results_ok Tryz.results101 (res_tmp (v := (B (decide (0 ≤ r1)))) rfl res_nil) rfl) ⟨rfl, rfl⟩ (H.sel' [] rfl rfl)

theorem c_cmp_Less_int {Bj : Int} {Cb : Int}  {r : Bool} (h : M.cmp_Less_int Bj Cb = some r) :
    Cal2 Tryz.prog 183 [(I Bj), (I Cb)] [] (fun n0 v L => v = (B r) ∧ L = []) := by
 refine cal2 (n := 17) Tryz.func183 rfl rfl rfl rfl ?_
 intro S0 σ0 n0 hn0 H
 unfold M.cmp_Less_int at h
 refine c_seq (rg (sa (B false) rfl (w_end (q_then (c_seq (rg (sm (I Bj) rfl ?_)))))))
 revert h; refine br fun r1 hx2 h => ?_
 have hc3 := c_cmp_isNaN_int hx2
 refine st_call (cx_call hc3 (ent_f hc3.fn rfl) hn0 (H.sel' [] rfl rfl : Hp S0 σ0 _ ([] ++ _))) wn ?_
 rintro _ σ4 ⟨_, ⟨rfl, rfl⟩, H, -⟩
 replace H : Hp _ _ _ [] := H
 refine sm (B r1) rfl ?_
 rcases Bool.eq_false_or_eq_true r1 with hb5 | hb5
 ·replace h := bif_t hb5 h
  refine st_g (v := (I Cb)) (congrArg some hb5) (rv_move rfl) ?_
  revert h; refine br fun r6 hx7 h => ?_
  have hc8 := c_cmp_isNaN_int hx7
  refine st_call (cx_call hc8 (ent_f hc8.fn rfl) hn0 (H.sel' [] rfl rfl : Hp S0 σ0 _ ([] ++ _))) (wanted_yes rfl (by exact (congrArg some hb5))) ?_
  rintro _ σ9 ⟨_, ⟨rfl, rfl⟩, H, -⟩
  replace H : Hp _ _ _ [] := H
  refine st_g (v := (B (!r6))) (congrArg some hb5) (rv_not rfl) (st (v := (B (!r6))) (rv_pick_t (congrArg B hb5) rfl) (sm (B (!r6)) rfl ?_))
  rcases Bool.eq_false_or_eq_true (!r6) with hb10 | hb10
  ·replace h := bif_t hb10 h
   refine st_skip (congrArg some hb10) (st_skip (congrArg some hb10) (st_skip (congrArg some hb10) (st (v := (B true)) (rv_pick_t (congrArg B hb10) rfl) (sa (B true) rfl (w_end (q_then (c_ret ?_)))))))
   obtain rfl := sj h
   exact fin_ret (v := (B true)) (results_ok Tryz.results183 (res_tmp (v := (B true)) rfl res_nil) rfl) ⟨rfl, rfl⟩ (H.sel' [] rfl rfl)
  ·replace h := bif_f hb10 h
   refine st_g (v := (I Bj)) (congrArg some hb10) (rv_move rfl) (st_g (v := (I Cb)) (congrArg some hb10) (rv_move rfl) (st_g (v := (B (decide (Bj < Cb)))) (congrArg some hb10) (rv_lss (a := Bj) (b := Cb) rfl rfl) (st (v := (B (decide (Bj < Cb)))) (rv_pick_f (congrArg B hb10) rfl) (sa (B (decide (Bj < Cb))) rfl (w_end (q_then (c_ret ?_)))))))
   obtain rfl := sj h
   exact fin_ret (v := (B (decide (Bj < Cb)))) (results_ok Tryz.results183 (res_tmp (v := (B (decide (Bj < Cb)))) rfl res_nil) rfl) ⟨rfl, rfl⟩ (H.sel' [] rfl rfl)
 ·replace h := bif_f hb5 h
  refine st_skip (congrArg some hb5) (st_skip (congrArg some hb5) (st_skip (congrArg some hb5) (st (v := (B false)) (rv_pick_f (congrArg B hb5) rfl) (sm (B false) rfl (st_g (v := (I Bj)) rfl (rv_move rfl) (st_g (v := (I Cb)) rfl (rv_move rfl) (st_g (v := (B (decide (Bj < Cb)))) rfl (rv_lss (a := Bj) (b := Cb) rfl rfl) (st (v := (B (decide (Bj < Cb)))) (rv_pick_f rfl rfl) (sa (B (decide (Bj < Cb))) rfl (w_end (q_then ?_)))))))))))
  refine c_ret ?_
  obtain rfl := sj h
  exact fin_ret (v := (B (decide (Bj < Cb)))) (results_ok Tryz.results183 (res_tmp (v := (B (decide (Bj < Cb)))) rfl res_nil) rfl) ⟨rfl, rfl⟩ (H.sel' [] rfl rfl)

theorem c_slices_insertionSortOrdered_int {Hj : List Int} {Dx : Int} {Dy : Int} {Hk : Option Addr} {Hl : Nat} {r : (List Int)} (h : M.slices_insertionSortOrdered_int Hj Dx Dy = some r) :
    Cal2 Tryz.prog 177 [(Sl Hk Hj Hl), (I Dx), (I Dy)] [Ch.own 0 0 (Sl Hk Hj Hl) Hj] (fun n0 v L => v = (.tuple #[]) ∧ L = [Ch.own 0 0 (Sl Hk r Hl) r] ∧ r.length = Hj.length) := by
 refine cal2 (n := 49) Tryz.func177 rfl rfl rfl rfl ?_
 intro S0 σ0 n0 hn0 H
 unfold M.slices_insertionSortOrdered_int at h
 refine c_seq (rg (sm (I Dx) rfl (st (v := (I (w64 (Dx + 1)))) (rv_add (a := Dx) (b := 1) rfl rfl) (sa (I (w64 (Dx + 1))) rfl (w_end (q_then ?_))))))
 obtain ⟨o1, hj, h'⟩ := bind_some h
 clear h
 refine c_cut (fun e a w => e = .normal ∧ ∃ (ρ : Nat → Value) (σ : St), a = fr 49 (updL ρ [(0, (Sl Hk o1 Hl))]) ∧ w = σ.w ∧ Hp S0 σ0 σ [Ch.own 0 0 (Sl Hk o1 Hl) o1] ∧ o1.length = Hj.length) ?_ ?_
 ·clear h'
  rename _ = some o1 => h
  refine c_blk (wp_loopM _ h (fun s2 a w => ∃ (ρ : Nat → Value) (σ : St), a = fr 49 (updL ρ [(0, (Sl Hk s2.1 Hl)), (1, (I Dx)), (2, (I Dy)), (6, (I s2.2))]) ∧ w = σ.w ∧ Hp S0 σ0 σ [Ch.own 0 0 (Sl Hk s2.1 Hl) s2.1] ∧ s2.1.length = Hj.length) ⟨_, σ0, fr_join ⟨rfl, rfl, rfl, rfl, trivial⟩, rfl, H.sel' [0] rfl rfl, rfl⟩ ?_)
  clear h H
  rintro s2 a w o ⟨ρ, σ3, rfl, rfl, H, hn4⟩ h hres
  refine c_seq (c_seq (rg (sm (I s2.2) rfl (sm (I Dy) rfl (st (v := (B (decide (s2.2 < Dy)))) (rv_lss (a := s2.2) (b := Dy) rfl rfl) (w_end (q_then ?_)))))))
  refine cd_cond (decide (s2.2 < Dy)) rfl (fun hb5 => ?_) (fun hb5 => ?_)
  ·replace h := bif_t hb5 h
   refine c_skip (q_then (c_seq (c_blk (c_seq (rg (sm (I s2.2) rfl (sa (I s2.2) rfl (w_end (q_then ?_)))))))))
   obtain ⟨o6, hj, h'⟩ := bind_some h
   clear h
   refine c_cut (fun e a w => e = .normal ∧ ∃ (ρ : Nat → Value) (σ : St), a = fr 49 (updL ρ [(0, (Sl Hk o6 Hl)), (1, (I Dx)), (2, (I Dy)), (6, (I s2.2))]) ∧ w = σ.w ∧ Hp S0 σ0 σ [Ch.own 0 0 (Sl Hk o6 Hl) o6] ∧ o6.length = s2.1.length) ?_ ?_
   ·clear h'
    rename _ = some o6 => h
    refine c_blk (wp_loopM _ h (fun s7 a w => ∃ (ρ : Nat → Value) (σ : St), a = fr 49 (updL ρ [(0, (Sl Hk s7.1 Hl)), (1, (I Dx)), (2, (I Dy)), (6, (I s2.2)), (7, (I s7.2))]) ∧ w = σ.w ∧ Hp S0 σ0 σ [Ch.own 0 0 (Sl Hk s7.1 Hl) s7.1] ∧ s7.1.length = s2.1.length) ⟨_, σ3, fr_join ⟨rfl, rfl, rfl, rfl, rfl, trivial⟩, rfl, H.sel' [0] rfl rfl, rfl⟩ ?_)
    clear h H
    rintro s7 a w o ⟨ρ, σ8, rfl, rfl, H, hn9⟩ h hres
    refine c_seq (c_seq ?_)
    obtain ⟨o10, hj, h'⟩ := bind_some h
    clear h
    refine c_cut (fun e a w => e = .normal ∧ ∃ (ρ : Nat → Value) (σ : St), a = fr 49 (updL ρ [(0, (Sl Hk s7.1 Hl)), (1, (I Dx)), (2, (I Dy)), (6, (I s2.2)), (7, (I s7.2)), (30, (B o10))]) ∧ w = σ.w ∧ Hp S0 σ0 σ [Ch.own 0 0 (Sl Hk s7.1 Hl) s7.1]) ?_ ?_
    ·clear h'
     rename _ = some o10 => h
     refine rgP (σ := σ8) 13 (by kernel_rfl) (by kernel_rfl) (by kernel_rfl) ?_
     refine sq (v := (I s7.2)) (rv_move rfl) (sq (v := (I Dx)) (rv_move rfl) (sq (v := (B (decide (Dx < s7.2)))) (rv_gtr (a := s7.2) (b := Dx) rfl rfl) (sq (v := (B (decide (Dx < s7.2)))) (rv_move rfl) ?_)))
     rcases Bool.eq_false_or_eq_true (decide (Dx < s7.2)) with hb11 | hb11
     ·replace h := bif_t hb11 h
      refine sq_g (v := (Sl Hk s7.1 Hl)) (congrArg some hb11) (rv_move rfl) (sq_g (v := (I s7.2)) (congrArg some hb11) (rv_move rfl) ?_)
      revert h; refine br fun x12 hx13 h => ?_
      obtain ⟨b15, o16, hi14, -⟩ := (H.own 0 rfl).ix hx13
      refine sq_g (v := (pt b15 o16)) (congrArg some hb11) (rv_ix Tryz.underlying27 ti3 rfl rfl hi14) ?_
      have hc17 := ((H.own 0 rfl).at hx13 hi14).int
      refine sq_g (v := (I x12)) (congrArg some hb11) (rv_load1 Tryz.underlying3 rfl rfl hc17) (sq_g (v := (Sl Hk s7.1 Hl)) (congrArg some hb11) (rv_move rfl) (sq_g (v := (I s7.2)) (congrArg some hb11) (rv_move rfl) (sq_g (v := (I (w64 (s7.2 - 1)))) (congrArg some hb11) (rv_sub (a := s7.2) (b := 1) rfl rfl) ?_)))
      revert h; refine br fun x18 hx19 h => ?_
      obtain ⟨b21, o22, hi20, -⟩ := (H.own 0 rfl).ix hx19
      refine sq_g (v := (pt b21 o22)) (congrArg some hb11) (rv_ix Tryz.underlying27 ti3 rfl rfl hi20) ?_
      have hc23 := ((H.own 0 rfl).at hx19 hi20).int
      refine sq_g (v := (I x18)) (congrArg some hb11) (rv_load1 Tryz.underlying3 rfl rfl hc23) (sq_end ?_)
      intro σ24 hm25
      replace H := H.grow (hm25.mono fun _ h => h); clear hm25
      revert h; refine br fun r26 hx27 h => ?_
      have hc28 := c_cmp_Less_int hx27
      refine st_call (cx_call hc28 (ent_f hc28.fn rfl) hn0 (H.sel' [0] rfl rfl : Hp S0 σ0 _ ([] ++ _))) (wanted_yes rfl (by exact (congrArg some hb11))) ?_
      rintro _ σ29 ⟨_, ⟨rfl, rfl⟩, H, -⟩
      replace H : Hp _ _ _ [_] := H
      refine st (v := (B r26)) (rv_pick_t (congrArg B hb11) rfl) (w_end ?_)
      obtain rfl := sj h
      exact ⟨rfl, _, σ29, fr_join ⟨rfl, rfl, rfl, rfl, rfl, rfl, trivial⟩, rfl, H.sel' [0] rfl rfl⟩
     ·replace h := bif_f hb11 h
      refine sq_skip (congrArg some hb11) (sq_skip (congrArg some hb11) (sq_skip (congrArg some hb11) (sq_skip (congrArg some hb11) (sq_skip (congrArg some hb11) (sq_skip (congrArg some hb11) (sq_skip (congrArg some hb11) (sq_skip (congrArg some hb11) (sq_skip (congrArg some hb11) (sq_end ?_)))))))))
      intro σ30 hm31
      replace H := H.grow (hm31.mono fun _ h => h); clear hm31
      refine st_skip (congrArg some hb11) (st (v := (B false)) (rv_pick_f (congrArg B hb11) rfl) (w_end ?_))
      obtain rfl := sj h
      exact ⟨rfl, _, σ30, fr_join ⟨rfl, rfl, rfl, rfl, rfl, rfl, trivial⟩, rfl, H.sel' [0] rfl rfl⟩
    ·clear hj
     have h := h'
     clear h' H
     rintro e a w ⟨rfl, ρ, σ32, rfl, rfl, H⟩
     refine q_then ?_
     refine cd_cond o10 rfl (fun hb33 => ?_) (fun hb33 => ?_)
     ·replace h := bif_t hb33 h
      refine c_skip (q_then (c_seq (c_blk ?_)))
      revert h; refine br fun x34 hx35 h => ?_
      obtain ⟨b37, o38, hi36, -⟩ := (H.own 0 rfl).ix hx35
      have hc39 := ((H.own 0 rfl).at hx35 hi36).int
      revert h; refine br fun x40 hx41 h => ?_
      obtain ⟨b43, o44, hi42, -⟩ := (H.own 0 rfl).ix hx41
      have hc45 := ((H.own 0 rfl).at hx41 hi42).int
      revert h; refine br fun x46 hx47 h => ?_
      obtain ⟨b49, o50, hi48, -⟩ := (H.own 0 rfl).ix hx47
      have Hs := H
      refine rg2 (σ := σ32) (Nm := Unit) 16 [15] [[false], [true]] [[(0, 0)], [(0, 0)], [(0, 0), (1, 1)], [(0, 0), (1, 1)], [(0, 0), (1, 1)], [(0, 0)], [(0, 0)], [(0, 0)], [(0, 0)], [(0, 0)], [(0, 0)], [(0, 0)], [(0, 0)], [(0, 0)], [(0, 0)], [(0, 1)]] 1 [fun _ => fun σm => Hp S0 σ0 σm [Ch.own 0 0 (Sl Hk s7.1 Hl) s7.1] ∧ Md (cov []) σ32 σm, fun _ => fun σm => Hp S0 σ0 σm [Ch.own 0 0 (Sl Hk s7.1 Hl) (s7.1.set s7.2.toNat x34)] ∧ Md (fun i => (cov []) i ∨ (fun b => blk (Sl Hk s7.1 Hl) = some b) i) σ32 σm] [fun _ => (Sl Hk s7.1 Hl), fun _ => (I s7.2), fun _ => (Sl Hk s7.1 Hl), fun _ => (I s7.2), fun _ => (I (w64 (s7.2 - 1))), fun _ => (Sl Hk s7.1 Hl), fun _ => (I s7.2), fun _ => (I (w64 (s7.2 - 1))), fun _ => (pt b37 o38), fun _ => (I x34), fun _ => (Sl Hk s7.1 Hl), fun _ => (I s7.2), fun _ => (pt b43 o44), fun _ => (I x40), fun _ => (pt b49 o50), fun _ => undef] () (by kernel_rfl) (by kernel_rfl) ?_ ?_ ?_
      ·intro σm m0
       exact ⟨H.grow (m0.mono fun _ h => h.elim), m0⟩
      ·refine ac rfl (by
         intro k _nm ρ σm hJ hoff hdep
         have e0 := look_off (N := 49) (hoff 0 rfl) rfl
         exact dp_v (v := (Sl Hk s7.1 Hl)) wn (rv_move e0) rfl hJ) ?_
       refine ac rfl (by
         intro k _nm ρ σm hJ hoff hdep
         have e7 := look_off (N := 49) (hoff 7 rfl) rfl
         exact dp_v (v := (I s7.2)) wn (rv_move e7) rfl hJ) ?_
       refine ac rfl (by
         intro k _nm ρ σm hJ hoff hdep
         have e0 := look_off (N := 49) (hoff 0 rfl) rfl
         exact dp_v (v := (Sl Hk s7.1 Hl)) wn (rv_move e0) rfl hJ) ?_
       refine ac rfl (by
         intro k _nm ρ σm hJ hoff hdep
         have e7 := look_off (N := 49) (hoff 7 rfl) rfl
         exact dp_v (v := (I s7.2)) wn (rv_move e7) rfl hJ) ?_
       refine ac rfl (by
         intro k _nm ρ σm hJ hoff hdep
         have e36 := hdep 3 rfl rfl 36 rfl
         exact dp_v (v := (I (w64 (s7.2 - 1)))) wn (rv_sub (a := s7.2) (b := 1) e36 rfl) rfl hJ) ?_
       refine ac rfl (by
         intro k _nm ρ σm hJ hoff hdep
         have e0 := look_off (N := 49) (hoff 0 rfl) rfl
         exact dp_v (v := (Sl Hk s7.1 Hl)) wn (rv_move e0) rfl hJ) ?_
       refine ac rfl (by
         intro k _nm ρ σm hJ hoff hdep
         have e7 := look_off (N := 49) (hoff 7 rfl) rfl
         exact dp_v (v := (I s7.2)) wn (rv_move e7) rfl hJ) ?_
       refine ac rfl (by
         intro k _nm ρ σm hJ hoff hdep
         have e39 := hdep 6 rfl rfl 39 rfl
         exact dp_v (v := (I (w64 (s7.2 - 1)))) wn (rv_sub (a := s7.2) (b := 1) e39 rfl) rfl hJ) ?_
       refine ac rfl (by
         intro k _nm ρ σm hJ hoff hdep
         have e38 := hdep 5 rfl rfl 38 rfl
         have e40 := hdep 7 rfl rfl 40 rfl
         exact dp_v (v := (pt b37 o38)) wn (rv_ix Tryz.underlying27 ti3 e38 e40 hi36) rfl hJ) ?_
       refine all_cons (by
         refine ⟨?_, ?_⟩
         ·intro _nm ρ σm hJ hoff hdep
          have e41 := hdep 8 rfl rfl 41 rfl
          obtain ⟨H, m⟩ := id hJ
          have hc39 := ((H.own 0 rfl).at hx35 hi36).int
          exact dp_v (v := (I x34)) wn (rv_load1 Tryz.underlying3 rfl e41 hc39) rfl hJ
         trivial) ?_
       refine ac rfl (by
         intro k _nm ρ σm hJ hoff hdep
         have e0 := look_off (N := 49) (hoff 0 rfl) rfl
         exact dp_v (v := (Sl Hk s7.1 Hl)) wn (rv_move e0) rfl hJ) ?_
       refine ac rfl (by
         intro k _nm ρ σm hJ hoff hdep
         have e7 := look_off (N := 49) (hoff 7 rfl) rfl
         exact dp_v (v := (I s7.2)) wn (rv_move e7) rfl hJ) ?_
       refine ac rfl (by
         intro k _nm ρ σm hJ hoff hdep
         have e43 := hdep 10 rfl rfl 43 rfl
         have e44 := hdep 11 rfl rfl 44 rfl
         exact dp_v (v := (pt b43 o44)) wn (rv_ix Tryz.underlying27 ti3 e43 e44 hi42) rfl hJ) ?_
       refine all_cons (by
         refine ⟨?_, ?_⟩
         ·intro _nm ρ σm hJ hoff hdep
          have e45 := hdep 12 rfl rfl 45 rfl
          obtain ⟨H, m⟩ := id hJ
          have hc45 := ((H.own 0 rfl).at hx41 hi42).int
          exact dp_v (v := (I x40)) wn (rv_load1 Tryz.underlying3 rfl e45 hc45) rfl hJ
         trivial) ?_
       refine ac rfl (by
         intro k _nm ρ σm hJ hoff hdep
         have e33 := hdep 0 rfl rfl 33 rfl
         have e34 := hdep 1 rfl rfl 34 rfl
         exact dp_v (v := (pt b49 o50)) wn (rv_ix Tryz.underlying27 ti3 e33 e34 hi48) rfl hJ) ?_
       refine all_cons (by
         refine ⟨?_, ?_⟩
         ·intro _nm ρ σm hJ hoff hdep
          have e47 := hdep 14 rfl rfl 47 rfl
          have e42 := hdep 9 rfl rfl 42 rfl
          obtain ⟨H, m⟩ := id hJ
          refine dp_exS wn rfl (ex_store_own (e' := x34) (vs := [(I x34)]) (k := 0) H (i := 0) rfl ti3 hx47 hi48 e47 rfl e42 rfl rfl (Nat.le_of_ble_eq_true rfl) (by simp [plain]) (by rintro _ rfl; exact rfl)) ?_
          rintro σq ⟨H2, m2⟩
          exact ⟨_, (), rfl, ⟨H2.sel' [0] rfl rfl, m.comp m2⟩, stab [0, 1, 2, 3, 4, 5, 6, 7, 8, 9, 10, 11, 12, 13, 14] (by kernel_rfl) ⟨rfl, rfl, rfl, rfl, rfl, rfl, rfl, rfl, rfl, rfl, rfl, rfl, rfl, rfl, rfl, trivial⟩⟩
         trivial) ?_
       exact all_nil
      ·intro _nm ρ σ51 hJ hoff hrel
       have e0 := look_off (N := 49) (hoff 0 rfl) rfl
       have e1 := look_off (N := 49) (hoff 1 rfl) rfl
       have e2 := look_off (N := 49) (hoff 2 rfl) rfl
       have e6 := look_off (N := 49) (hoff 6 rfl) rfl
       have e7 := look_off (N := 49) (hoff 7 rfl) rfl
       have e35 := hrel 2 rfl 35 rfl
       have e37 := hrel 4 rfl 37 rfl
       have e46 := hrel 13 rfl 46 rfl
       obtain ⟨H, -⟩ := (show Hp S0 σ0 σ51 [Ch.own 0 0 (Sl Hk s7.1 Hl) (s7.1.set s7.2.toNat x34)] ∧ Md (fun i => (cov []) i ∨ (fun b => blk (Sl Hk s7.1 Hl) = some b) i) σ32 σ51 from hJ)
       clear hJ Hs
       rw [fr_lookL (L := [(0, (Sl Hk s7.1 Hl)), (1, (I Dx)), (2, (I Dy)), (6, (I s2.2)), (7, (I s7.2)), (35, (Sl Hk s7.1 Hl)), (37, (I (w64 (s7.2 - 1)))), (46, (I x40))]) ⟨e0, e1, e2, e6, e7, e35, e37, e46, trivial⟩]
       clear hoff hrel e0 e1 e2 e6 e7 e35 e37 e46
       have hsl : (Sl Hk s7.1 Hl) = (Sl Hk (s7.1.set s7.2.toNat x34) Hl) := sl_len (by simp)
       rw [hsl]; rw [hsl] at H; clear hsl
       revert h; refine br fun x52 hx53 h => ?_
       obtain ⟨b55, o56, hi54, -⟩ := (H.own 0 rfl).ix hx53
       refine st (v := (pt b55 o56)) (rv_ix Tryz.underlying27 ti3 rfl rfl hi54) ?_
       refine st_exS (ex_store_own (e' := x40) (vs := [(I x40)]) (k := 0) H (i := 0) rfl ti3 hx53 hi54 rfl rfl rfl rfl rfl (Nat.le_of_ble_eq_true rfl) (by simp [plain]) (by rintro _ rfl; exact rfl)) wn ?_
       rintro σ57 ⟨H, -⟩
       have hsl : (Sl Hk (s7.1.set s7.2.toNat x34) Hl) = (Sl Hk ((s7.1.set s7.2.toNat x34).set (w64 (s7.2 - 1)).toNat x40) Hl) := sl_len List.length_set.symm
       rw [hsl]; rw [hsl] at H; clear hsl
       refine w_end (q_blk (q_then (rg (sm (I s7.2) rfl (st (v := (I (w64 (s7.2 - 1)))) (rv_sub (a := s7.2) (b := 1) rfl rfl) (sa (I (w64 (s7.2 - 1))) rfl (w_end (q_then ?_))))))))
       obtain rfl := sj h
       exact ⟨_, rfl, _, σ57, fr_join ⟨rfl, rfl, rfl, rfl, rfl, trivial⟩, rfl, H.sel' [0] rfl rfl, ((List.length_set.trans (List.length_set.trans (hn9.trans hn4))).trans hn4.symm)⟩
     ·replace h := bif_f hb33 h
      refine c_exit (q_then_x (q_then_x (q_blk_hit ?_)))
      obtain rfl := sj h
      obtain rfl := hres _ rfl
      exact ⟨rfl, _, σ32, fr_join ⟨rfl, rfl, rfl, rfl, trivial⟩, rfl, H.sel' [0] rfl rfl, ((hn9.trans hn4).trans hn4.symm)⟩
   ·clear hj
    have h := h'
    clear h' H
    rintro e a w ⟨rfl, ρ, σ58, rfl, rfl, H, hn59⟩
    refine q_blk (q_then (rg (sm (I s2.2) rfl (st (v := (I (w64 (s2.2 + 1)))) (rv_add (a := s2.2) (b := 1) rfl rfl) (sa (I (w64 (s2.2 + 1))) rfl (w_end (q_then ?_)))))))
    obtain rfl := sj h
    exact ⟨_, rfl, _, σ58, fr_join ⟨rfl, rfl, rfl, rfl, trivial⟩, rfl, H.sel' [0] rfl rfl, (hn59.trans hn4)⟩
  ·replace h := bif_f hb5 h
   refine c_exit (q_then_x (q_then_x (q_blk_hit ?_)))
   obtain rfl := sj h
   obtain rfl := hres _ rfl
   exact ⟨rfl, _, σ3, fr_join ⟨rfl, trivial⟩, rfl, H.sel' [0] rfl rfl, hn4⟩
 ·clear hj
  have h := h'
  clear h' H
  rintro e a w ⟨rfl, ρ, σ60, rfl, rfl, H, hn61⟩
  obtain rfl := sj h
  exact fin_end (v := (.tuple #[])) (results_ok Tryz.results177 res_nil rfl) ⟨rfl, rfl, hn61⟩ (H.sel' [0] rfl rfl)

theorem c_slices_siftDownOrdered_int {Hj : List Int} {Hm : Int} {Hn : Int} {Ho : Int} {Hk : Option Addr} {Hl : Nat} {r : (List Int)} (h : M.slices_siftDownOrdered_int Hj Hm Hn Ho = some r) :
    Cal2 Tryz.prog 197 [(Sl Hk Hj Hl), (I Hm), (I Hn), (I Ho)] [Ch.own 0 0 (Sl Hk Hj Hl) Hj] (fun n0 v L => v = (.tuple #[]) ∧ L = [Ch.own 0 0 (Sl Hk r Hl) r] ∧ r.length = Hj.length) := by
 refine cal2 (n := 76) Tryz.func197 rfl rfl rfl rfl ?_
 intro S0 σ0 n0 hn0 H
 unfold M.slices_siftDownOrdered_int at h
 refine c_seq (rg (sm (I Hm) rfl (sa (I Hm) rfl (w_end (q_then ?_)))))
 obtain ⟨o1, hj, h'⟩ := bind_some h
 clear h
 refine c_cut (fun e a w => (∃ t, o1 = (.inl t) ∧ e = .normal ∧ ∃ (ρ : Nat → Value) (σ : St), a = fr 76 (updL ρ [(0, (Sl Hk t Hl))]) ∧ w = σ.w ∧ Hp S0 σ0 σ [Ch.own 0 0 (Sl Hk t Hl) t] ∧ t.length = Hj.length) ∨ (∃ t, o1 = (.inr t) ∧ e = .ret ∧ ∃ (ρ : Nat → Value) (σ : St), a = fr 76 (updL ρ [(0, (Sl Hk t Hl))]) ∧ w = σ.w ∧ Hp S0 σ0 σ [Ch.own 0 0 (Sl Hk t Hl) t] ∧ t.length = Hj.length)) ?_ ?_
 ·clear h'
  rename _ = some o1 => h
  refine c_blk (wp_loopM _ h (fun s2 a w => ∃ (ρ : Nat → Value) (σ : St), a = fr 76 (updL ρ [(0, (Sl Hk s2.1 Hl)), (2, (I Hn)), (3, (I Ho)), (8, (I s2.2))]) ∧ w = σ.w ∧ Hp S0 σ0 σ [Ch.own 0 0 (Sl Hk s2.1 Hl) s2.1] ∧ s2.1.length = Hj.length) ⟨_, σ0, fr_join ⟨rfl, rfl, rfl, rfl, trivial⟩, rfl, H.sel' [0] rfl rfl, rfl⟩ ?_)
  clear h H
  rintro s2 a w o ⟨ρ, σ3, rfl, rfl, H, hn4⟩ h hres
  refine c_blk (c_seq (rg (sm (I s2.2) rfl (st (v := (I (w64 (2 * s2.2)))) (rv_mul (a := 2) (b := s2.2) rfl rfl) (st (v := (I (w64 ((w64 (2 * s2.2)) + 1)))) (rv_add (a := (w64 (2 * s2.2))) (b := 1) rfl rfl) (sa (I (w64 ((w64 (2 * s2.2)) + 1))) rfl (w_end (q_then (c_seq (c_seq (rg ?_)))))))))))
  refine sm (I (w64 ((w64 (2 * s2.2)) + 1))) rfl (sm (I Hn) rfl (st (v := (B (decide (Hn ≤ (w64 ((w64 (2 * s2.2)) + 1)))))) (rv_geq (a := (w64 ((w64 (2 * s2.2)) + 1))) (b := Hn) rfl rfl) (w_end (q_then ?_))))
  refine cd_cond (decide (Hn ≤ (w64 ((w64 (2 * s2.2)) + 1)))) rfl (fun hb5 => ?_) (fun hb5 => ?_)
  ·replace h := bif_t hb5 h
   refine c_exit (q_then_x ?_)
   refine q_blk_x (by decide) ?_
   refine q_then_x (q_blk_hit ?_)
   obtain rfl := sj h
   obtain rfl := hres _ rfl
   exact .inl ⟨_, rfl, rfl, _, σ3, fr_join ⟨rfl, trivial⟩, rfl, H.sel' [0] rfl rfl, hn4⟩
  ·replace h := bif_f hb5 h
   refine c_skip (q_then (c_seq (c_seq ?_)))
   obtain ⟨o6, hj, h'⟩ := bind_some h
   clear h
   refine c_cut (fun e a w => e = .normal ∧ ∃ (ρ : Nat → Value) (σ : St), a = fr 76 (updL ρ [(0, (Sl Hk s2.1 Hl)), (2, (I Hn)), (3, (I Ho)), (8, (I s2.2)), (9, (I (w64 ((w64 (2 * s2.2)) + 1)))), (36, (B o6))]) ∧ w = σ.w ∧ Hp S0 σ0 σ [Ch.own 0 0 (Sl Hk s2.1 Hl) s2.1]) ?_ ?_
   ·clear h'
    rename _ = some o6 => h
    refine rgP (σ := σ3) 18 (by kernel_rfl) (by kernel_rfl) (by kernel_rfl) ?_
    refine sq (v := (I (w64 ((w64 (2 * s2.2)) + 1)))) (rv_move rfl) (sq (v := (I (w64 ((w64 ((w64 (2 * s2.2)) + 1)) + 1)))) (rv_add (a := (w64 ((w64 (2 * s2.2)) + 1))) (b := 1) rfl rfl) (sq (v := (I Hn)) (rv_move rfl) (sq (v := (B (decide ((w64 ((w64 ((w64 (2 * s2.2)) + 1)) + 1)) < Hn)))) (rv_lss (a := (w64 ((w64 ((w64 (2 * s2.2)) + 1)) + 1))) (b := Hn) rfl rfl) (sq (v := (B (decide ((w64 ((w64 ((w64 (2 * s2.2)) + 1)) + 1)) < Hn)))) (rv_move rfl) ?_))))
    rcases Bool.eq_false_or_eq_true (decide ((w64 ((w64 ((w64 (2 * s2.2)) + 1)) + 1)) < Hn)) with hb7 | hb7
    ·replace h := bif_t hb7 h
     refine sq_g (v := (Sl Hk s2.1 Hl)) (congrArg some hb7) (rv_move rfl) (sq_g (v := (I Ho)) (congrArg some hb7) (rv_move rfl) (sq_g (v := (I (w64 ((w64 (2 * s2.2)) + 1)))) (congrArg some hb7) (rv_move rfl) (sq_g (v := (I (w64 (Ho + (w64 ((w64 (2 * s2.2)) + 1)))))) (congrArg some hb7) (rv_add (a := Ho) (b := (w64 ((w64 (2 * s2.2)) + 1))) rfl rfl) ?_)))
     revert h; refine br fun x8 hx9 h => ?_
     obtain ⟨b11, o12, hi10, -⟩ := (H.own 0 rfl).ix hx9
     refine sq_g (v := (pt b11 o12)) (congrArg some hb7) (rv_ix Tryz.underlying27 ti3 rfl rfl hi10) ?_
     have hc13 := ((H.own 0 rfl).at hx9 hi10).int
     refine sq_g (v := (I x8)) (congrArg some hb7) (rv_load1 Tryz.underlying3 rfl rfl hc13) (sq_g (v := (Sl Hk s2.1 Hl)) (congrArg some hb7) (rv_move rfl) (sq_g (v := (I Ho)) (congrArg some hb7) (rv_move rfl) (sq_g (v := (I (w64 ((w64 (2 * s2.2)) + 1)))) (congrArg some hb7) (rv_move rfl) (sq_g (v := (I (w64 (Ho + (w64 ((w64 (2 * s2.2)) + 1)))))) (congrArg some hb7) (rv_add (a := Ho) (b := (w64 ((w64 (2 * s2.2)) + 1))) rfl rfl) (sq_g (v := (I (w64 ((w64 (Ho + (w64 ((w64 (2 * s2.2)) + 1)))) + 1)))) (congrArg some hb7) (rv_add (a := (w64 (Ho + (w64 ((w64 (2 * s2.2)) + 1))))) (b := 1) rfl rfl) ?_)))))
     revert h; refine br fun x14 hx15 h => ?_
     obtain ⟨b17, o18, hi16, -⟩ := (H.own 0 rfl).ix hx15
     refine sq_g (v := (pt b17 o18)) (congrArg some hb7) (rv_ix Tryz.underlying27 ti3 rfl rfl hi16) ?_
     have hc19 := ((H.own 0 rfl).at hx15 hi16).int
     refine sq_g (v := (I x14)) (congrArg some hb7) (rv_load1 Tryz.underlying3 rfl rfl hc19) (sq_end ?_)
     intro σ20 hm21
     replace H := H.grow (hm21.mono fun _ h => h); clear hm21
     revert h; refine br fun r22 hx23 h => ?_
     have hc24 := c_cmp_Less_int hx23
     refine st_call (cx_call hc24 (ent_f hc24.fn rfl) hn0 (H.sel' [0] rfl rfl : Hp S0 σ0 _ ([] ++ _))) (wanted_yes rfl (by exact (congrArg some hb7))) ?_
     rintro _ σ25 ⟨_, ⟨rfl, rfl⟩, H, -⟩
     replace H : Hp _ _ _ [_] := H
     refine st (v := (B r22)) (rv_pick_t (congrArg B hb7) rfl) (w_end ?_)
     obtain rfl := sj h
     exact ⟨rfl, _, σ25, fr_join ⟨rfl, rfl, rfl, rfl, rfl, rfl, trivial⟩, rfl, H.sel' [0] rfl rfl⟩
    ·replace h := bif_f hb7 h
     refine sq_skip (congrArg some hb7) (sq_skip (congrArg some hb7) (sq_skip (congrArg some hb7) (sq_skip (congrArg some hb7) (sq_skip (congrArg some hb7) (sq_skip (congrArg some hb7) (sq_skip (congrArg some hb7) (sq_skip (congrArg some hb7) (sq_skip (congrArg some hb7) (sq_skip (congrArg some hb7) (sq_skip (congrArg some hb7) (sq_skip (congrArg some hb7) ?_)))))))))))
     refine sq_skip (congrArg some hb7) (sq_end ?_)
     intro σ26 hm27
     replace H := H.grow (hm27.mono fun _ h => h); clear hm27
     refine st_skip (congrArg some hb7) (st (v := (B false)) (rv_pick_f (congrArg B hb7) rfl) (w_end ?_))
     obtain rfl := sj h
     exact ⟨rfl, _, σ26, fr_join ⟨rfl, rfl, rfl, rfl, rfl, rfl, trivial⟩, rfl, H.sel' [0] rfl rfl⟩
   ·clear hj
    have h := h'
    clear h' H
    rintro e a w ⟨rfl, ρ, σ28, rfl, rfl, H⟩
    refine q_then ?_
    obtain ⟨o29, hj, h'⟩ := bind_some h
    clear h
    refine c_cut (fun e a w => e = .normal ∧ ∃ (ρ : Nat → Value) (σ : St), a = fr 76 (updL ρ [(0, (Sl Hk s2.1 Hl)), (2, (I Hn)), (3, (I Ho)), (8, (I s2.2)), (9, (I o29))]) ∧ w = σ.w ∧ Hp S0 σ0 σ [Ch.own 0 0 (Sl Hk s2.1 Hl) s2.1]) ?_ ?_
    ·clear h'
     rename _ = some o29 => h
     refine cd_cond o6 rfl (fun hb30 => ?_) (fun hb30 => ?_)
     ·replace h := bif_t hb30 h
      refine rg (sm (I (w64 ((w64 (2 * s2.2)) + 1))) rfl (st (v := (I (w64 ((w64 ((w64 (2 * s2.2)) + 1)) + 1)))) (rv_add (a := (w64 ((w64 (2 * s2.2)) + 1))) (b := 1) rfl rfl) (sa (I (w64 ((w64 ((w64 (2 * s2.2)) + 1)) + 1))) rfl (w_end ?_))))
      obtain rfl := sj h
      exact ⟨rfl, _, σ28, fr_join ⟨rfl, rfl, rfl, rfl, rfl, trivial⟩, rfl, H.sel' [0] rfl rfl⟩
     ·replace h := bif_f hb30 h
      refine c_skip ?_
      obtain rfl := sj h
      exact ⟨rfl, _, σ28, fr_join ⟨rfl, rfl, rfl, rfl, rfl, trivial⟩, rfl, H.sel' [0] rfl rfl⟩
    ·clear hj
     have h := h'
     clear h' H
     rintro e a w ⟨rfl, ρ, σ31, rfl, rfl, H⟩
     refine q_then (c_seq (c_seq ?_))
     refine rgP (σ := σ31) 12 (by kernel_rfl) (by kernel_rfl) (by kernel_rfl) ?_
     refine sq (v := (Sl Hk s2.1 Hl)) (rv_move rfl) (sq (v := (I Ho)) (rv_move rfl) (sq (v := (I s2.2)) (rv_move rfl) (sq (v := (I (w64 (Ho + s2.2)))) (rv_add (a := Ho) (b := s2.2) rfl rfl) ?_)))
     revert h; refine br fun x32 hx33 h => ?_
     obtain ⟨b35, o36, hi34, -⟩ := (H.own 0 rfl).ix hx33
     refine sq (v := (pt b35 o36)) (rv_ix Tryz.underlying27 ti3 rfl rfl hi34) ?_
     have hc37 := ((H.own 0 rfl).at hx33 hi34).int
     refine sq (v := (I x32)) (rv_load1 Tryz.underlying3 rfl rfl hc37) (sq (v := (Sl Hk s2.1 Hl)) (rv_move rfl) (sq (v := (I Ho)) (rv_move rfl) (sq (v := (I o29)) (rv_move rfl) (sq (v := (I (w64 (Ho + o29)))) (rv_add (a := Ho) (b := o29) rfl rfl) ?_))))
     revert h; refine br fun x38 hx39 h => ?_
     obtain ⟨b41, o42, hi40, -⟩ := (H.own 0 rfl).ix hx39
     refine sq (v := (pt b41 o42)) (rv_ix Tryz.underlying27 ti3 rfl rfl hi40) ?_
     have hc43 := ((H.own 0 rfl).at hx39 hi40).int
     refine sq (v := (I x38)) (rv_load1 Tryz.underlying3 rfl rfl hc43) (sq_end ?_)
     intro σ44 hm45
     replace H := H.grow (hm45.mono fun _ h => h); clear hm45
     revert h; refine br fun r46 hx47 h => ?_
     have hc48 := c_cmp_Less_int hx47
     refine st_call (cx_call hc48 (ent_f hc48.fn rfl) hn0 (H.sel' [0] rfl rfl : Hp S0 σ0 _ ([] ++ _))) wn ?_
     rintro _ σ49 ⟨_, ⟨rfl, rfl⟩, H, -⟩
     replace H : Hp _ _ _ [_] := H
     refine st (v := (B (!r46))) (rv_not rfl) (w_end (q_then ?_))
     refine cd_cond (!r46) rfl (fun hb50 => ?_) (fun hb50 => ?_)
     ·replace h := bif_t hb50 h
      refine c_ret (q_then_r (q_blk_r (q_then_r (q_blk_r ?_))))
      obtain rfl := sj h
      obtain rfl := hres _ rfl
      exact .inr (⟨_, rfl, rfl, _, σ49, fr_join ⟨rfl, trivial⟩, rfl, H.sel' [0] rfl rfl, hn4⟩)
     ·replace h := bif_f hb50 h
      refine c_skip (q_then (c_seq ?_))
      revert h; refine br fun x51 hx52 h => ?_
      obtain ⟨b54, o55, hi53, -⟩ := (H.own 0 rfl).ix hx52
      have hc56 := ((H.own 0 rfl).at hx52 hi53).int
      revert h; refine br fun x57 hx58 h => ?_
      obtain ⟨b60, o61, hi59, -⟩ := (H.own 0 rfl).ix hx58
      have hc62 := ((H.own 0 rfl).at hx58 hi59).int
      revert h; refine br fun x63 hx64 h => ?_
      obtain ⟨b66, o67, hi65, -⟩ := (H.own 0 rfl).ix hx64
      have Hs := H
      refine rg2 (σ := σ49) (Nm := Unit) 22 [21] [[false], [true]] [[(0, 0)], [(0, 0)], [(0, 0)], [(0, 0)], [(0, 0), (1, 1)], [(0, 0), (1, 1)], [(0, 0), (1, 1)], [(0, 0), (1, 1)], [(0, 0)], [(0, 0)], [(0, 0)], [(0, 0)], [(0, 0)], [(0, 0)], [(0, 0)], [(0, 0)], [(0, 0)], [(0, 0)], [(0, 0)], [(0, 0)], [(0, 0)], [(0, 1)]] 1 [fun _ => fun σm => Hp S0 σ0 σm [Ch.own 0 0 (Sl Hk s2.1 Hl) s2.1] ∧ Md (cov []) σ49 σm, fun _ => fun σm => Hp S0 σ0 σm [Ch.own 0 0 (Sl Hk s2.1 Hl) (s2.1.set (w64 (Ho + s2.2)).toNat x51)] ∧ Md (fun i => (cov []) i ∨ (fun b => blk (Sl Hk s2.1 Hl) = some b) i) σ49 σm] [fun _ => (Sl Hk s2.1 Hl), fun _ => (I Ho), fun _ => (I s2.2), fun _ => (I (w64 (Ho + s2.2))), fun _ => (Sl Hk s2.1 Hl), fun _ => (I Ho), fun _ => (I o29), fun _ => (I (w64 (Ho + o29))), fun _ => (Sl Hk s2.1 Hl), fun _ => (I Ho), fun _ => (I o29), fun _ => (I (w64 (Ho + o29))), fun _ => (pt b54 o55), fun _ => (I x51), fun _ => (Sl Hk s2.1 Hl), fun _ => (I Ho), fun _ => (I s2.2), fun _ => (I (w64 (Ho + s2.2))), fun _ => (pt b60 o61), fun _ => (I x57), fun _ => (pt b66 o67), fun _ => undef] () (by kernel_rfl) (by kernel_rfl) ?_ ?_ ?_
      ·intro σm m0
       exact ⟨H.grow (m0.mono fun _ h => h.elim), m0⟩
      ·refine ac rfl (by
         intro k _nm ρ σm hJ hoff hdep
         have e0 := look_off (N := 76) (hoff 0 rfl) rfl
         exact dp_v (v := (Sl Hk s2.1 Hl)) wn (rv_move e0) rfl hJ) ?_
       refine ac rfl (by
         intro k _nm ρ σm hJ hoff hdep
         have e3 := look_off (N := 76) (hoff 3 rfl) rfl
         exact dp_v (v := (I Ho)) wn (rv_move e3) rfl hJ) ?_
       refine ac rfl (by
         intro k _nm ρ σm hJ hoff hdep
         have e8 := look_off (N := 76) (hoff 8 rfl) rfl
         exact dp_v (v := (I s2.2)) wn (rv_move e8) rfl hJ) ?_
       refine ac rfl (by
         intro k _nm ρ σm hJ hoff hdep
         have e54 := hdep 1 rfl rfl 54 rfl
         have e55 := hdep 2 rfl rfl 55 rfl
         exact dp_v (v := (I (w64 (Ho + s2.2)))) wn (rv_add (a := Ho) (b := s2.2) e54 e55) rfl hJ) ?_
       refine ac rfl (by
         intro k _nm ρ σm hJ hoff hdep
         have e0 := look_off (N := 76) (hoff 0 rfl) rfl
         exact dp_v (v := (Sl Hk s2.1 Hl)) wn (rv_move e0) rfl hJ) ?_
       refine ac rfl (by
         intro k _nm ρ σm hJ hoff hdep
         have e3 := look_off (N := 76) (hoff 3 rfl) rfl
         exact dp_v (v := (I Ho)) wn (rv_move e3) rfl hJ) ?_
       refine ac rfl (by
         intro k _nm ρ σm hJ hoff hdep
         have e9 := look_off (N := 76) (hoff 9 rfl) rfl
         exact dp_v (v := (I o29)) wn (rv_move e9) rfl hJ) ?_
       refine ac rfl (by
         intro k _nm ρ σm hJ hoff hdep
         have e58 := hdep 5 rfl rfl 58 rfl
         have e59 := hdep 6 rfl rfl 59 rfl
         exact dp_v (v := (I (w64 (Ho + o29)))) wn (rv_add (a := Ho) (b := o29) e58 e59) rfl hJ) ?_
       refine ac rfl (by
         intro k _nm ρ σm hJ hoff hdep
         have e0 := look_off (N := 76) (hoff 0 rfl) rfl
         exact dp_v (v := (Sl Hk s2.1 Hl)) wn (rv_move e0) rfl hJ) ?_
       refine ac rfl (by
         intro k _nm ρ σm hJ hoff hdep
         have e3 := look_off (N := 76) (hoff 3 rfl) rfl
         exact dp_v (v := (I Ho)) wn (rv_move e3) rfl hJ) ?_
       refine ac rfl (by
         intro k _nm ρ σm hJ hoff hdep
         have e9 := look_off (N := 76) (hoff 9 rfl) rfl
         exact dp_v (v := (I o29)) wn (rv_move e9) rfl hJ) ?_
       refine ac rfl (by
         intro k _nm ρ σm hJ hoff hdep
         have e62 := hdep 9 rfl rfl 62 rfl
         have e63 := hdep 10 rfl rfl 63 rfl
         exact dp_v (v := (I (w64 (Ho + o29)))) wn (rv_add (a := Ho) (b := o29) e62 e63) rfl hJ) ?_
       refine ac rfl (by
         intro k _nm ρ σm hJ hoff hdep
         have e61 := hdep 8 rfl rfl 61 rfl
         have e64 := hdep 11 rfl rfl 64 rfl
         exact dp_v (v := (pt b54 o55)) wn (rv_ix Tryz.underlying27 ti3 e61 e64 hi53) rfl hJ) ?_
       refine all_cons (by
         refine ⟨?_, ?_⟩
         ·intro _nm ρ σm hJ hoff hdep
          have e65 := hdep 12 rfl rfl 65 rfl
          obtain ⟨H, m⟩ := id hJ
          have hc56 := ((H.own 0 rfl).at hx52 hi53).int
          exact dp_v (v := (I x51)) wn (rv_load1 Tryz.underlying3 rfl e65 hc56) rfl hJ
         trivial) ?_
       refine ac rfl (by
         intro k _nm ρ σm hJ hoff hdep
         have e0 := look_off (N := 76) (hoff 0 rfl) rfl
         exact dp_v (v := (Sl Hk s2.1 Hl)) wn (rv_move e0) rfl hJ) ?_
       refine ac rfl (by
         intro k _nm ρ σm hJ hoff hdep
         have e3 := look_off (N := 76) (hoff 3 rfl) rfl
         exact dp_v (v := (I Ho)) wn (rv_move e3) rfl hJ) ?_
       refine ac rfl (by
         intro k _nm ρ σm hJ hoff hdep
         have e8 := look_off (N := 76) (hoff 8 rfl) rfl
         exact dp_v (v := (I s2.2)) wn (rv_move e8) rfl hJ) ?_
       refine ac rfl (by
         intro k _nm ρ σm hJ hoff hdep
         have e68 := hdep 15 rfl rfl 68 rfl
         have e69 := hdep 16 rfl rfl 69 rfl
         exact dp_v (v := (I (w64 (Ho + s2.2)))) wn (rv_add (a := Ho) (b := s2.2) e68 e69) rfl hJ) ?_
       refine ac rfl (by
         intro k _nm ρ σm hJ hoff hdep
         have e67 := hdep 14 rfl rfl 67 rfl
         have e70 := hdep 17 rfl rfl 70 rfl
         exact dp_v (v := (pt b60 o61)) wn (rv_ix Tryz.underlying27 ti3 e67 e70 hi59) rfl hJ) ?_
       refine all_cons (by
         refine ⟨?_, ?_⟩
         ·intro _nm ρ σm hJ hoff hdep
          have e71 := hdep 18 rfl rfl 71 rfl
          obtain ⟨H, m⟩ := id hJ
          have hc62 := ((H.own 0 rfl).at hx58 hi59).int
          exact dp_v (v := (I x57)) wn (rv_load1 Tryz.underlying3 rfl e71 hc62) rfl hJ
         trivial) ?_
       refine ac rfl (by
         intro k _nm ρ σm hJ hoff hdep
         have e53 := hdep 0 rfl rfl 53 rfl
         have e56 := hdep 3 rfl rfl 56 rfl
         exact dp_v (v := (pt b66 o67)) wn (rv_ix Tryz.underlying27 ti3 e53 e56 hi65) rfl hJ) ?_
       refine all_cons (by
         refine ⟨?_, ?_⟩
         ·intro _nm ρ σm hJ hoff hdep
          have e73 := hdep 20 rfl rfl 73 rfl
          have e66 := hdep 13 rfl rfl 66 rfl
          obtain ⟨H, m⟩ := id hJ
          refine dp_exS wn rfl (ex_store_own (e' := x51) (vs := [(I x51)]) (k := 0) H (i := 0) rfl ti3 hx64 hi65 e73 rfl e66 rfl rfl (Nat.le_of_ble_eq_true rfl) (by simp [plain]) (by rintro _ rfl; exact rfl)) ?_
          rintro σq ⟨H2, m2⟩
          exact ⟨_, (), rfl, ⟨H2.sel' [0] rfl rfl, m.comp m2⟩, stab [0, 1, 2, 3, 4, 5, 6, 7, 8, 9, 10, 11, 12, 13, 14, 15, 16, 17, 18, 19, 20] (by kernel_rfl) ⟨rfl, rfl, rfl, rfl, rfl, rfl, rfl, rfl, rfl, rfl, rfl, rfl, rfl, rfl, rfl, rfl, rfl, rfl, rfl, rfl, rfl, trivial⟩⟩
         trivial) ?_
       exact all_nil
      ·intro _nm ρ σ68 hJ hoff hrel
       have e0 := look_off (N := 76) (hoff 0 rfl) rfl
       have e2 := look_off (N := 76) (hoff 2 rfl) rfl
       have e3 := look_off (N := 76) (hoff 3 rfl) rfl
       have e9 := look_off (N := 76) (hoff 9 rfl) rfl
       have e57 := hrel 4 rfl 57 rfl
       have e60 := hrel 7 rfl 60 rfl
       have e72 := hrel 19 rfl 72 rfl
       obtain ⟨H, -⟩ := (show Hp S0 σ0 σ68 [Ch.own 0 0 (Sl Hk s2.1 Hl) (s2.1.set (w64 (Ho + s2.2)).toNat x51)] ∧ Md (fun i => (cov []) i ∨ (fun b => blk (Sl Hk s2.1 Hl) = some b) i) σ49 σ68 from hJ)
       clear hJ Hs
       rw [fr_lookL (L := [(0, (Sl Hk s2.1 Hl)), (2, (I Hn)), (3, (I Ho)), (9, (I o29)), (57, (Sl Hk s2.1 Hl)), (60, (I (w64 (Ho + o29)))), (72, (I x57))]) ⟨e0, e2, e3, e9, e57, e60, e72, trivial⟩]
       clear hoff hrel e0 e2 e3 e9 e57 e60 e72
       have hsl : (Sl Hk s2.1 Hl) = (Sl Hk (s2.1.set (w64 (Ho + s2.2)).toNat x51) Hl) := sl_len (by simp)
       rw [hsl]; rw [hsl] at H; clear hsl
       revert h; refine br fun x69 hx70 h => ?_
       obtain ⟨b72, o73, hi71, -⟩ := (H.own 0 rfl).ix hx70
       refine st (v := (pt b72 o73)) (rv_ix Tryz.underlying27 ti3 rfl rfl hi71) ?_
       refine st_exS (ex_store_own (e' := x57) (vs := [(I x57)]) (k := 0) H (i := 0) rfl ti3 hx70 hi71 rfl rfl rfl rfl rfl (Nat.le_of_ble_eq_true rfl) (by simp [plain]) (by rintro _ rfl; exact rfl)) wn ?_
       rintro σ74 ⟨H, -⟩
       have hsl : (Sl Hk (s2.1.set (w64 (Ho + s2.2)).toNat x51) Hl) = (Sl Hk ((s2.1.set (w64 (Ho + s2.2)).toNat x51).set (w64 (Ho + o29)).toNat x57) Hl) := sl_len List.length_set.symm
       rw [hsl]; rw [hsl] at H; clear hsl
       refine w_end (q_then (rg (sm (I o29) rfl (sa (I o29) rfl (w_end (q_blk (q_then ?_)))))))
       obtain rfl := sj h
       exact ⟨_, rfl, _, σ74, fr_join ⟨rfl, rfl, rfl, rfl, trivial⟩, rfl, H.sel' [0] rfl rfl, (List.length_set.trans (List.length_set.trans hn4))⟩
 ·clear hj
  have h := h'
  clear h' H
  rintro e a w (⟨t75, rfl, rfl, ρ, σ76, rfl, rfl, H, hn77⟩ | ⟨t78, rfl, rfl, ρ, σ79, rfl, rfl, H, hn80⟩)
  ·replace h := selim_l h
   obtain rfl := sj h
   exact fin_end (v := (.tuple #[])) (results_ok Tryz.results197 res_nil rfl) ⟨rfl, rfl, hn77⟩ (H.sel' [0] rfl rfl)
  ·replace h := selim_r h
   obtain rfl := sj h
   exact fin_ret (v := (.tuple #[])) (results_ok Tryz.results197 res_nil rfl) ⟨rfl, rfl, hn80⟩ (H.sel' [0] rfl rfl)

theorem c_slices_heapSortOrdered_int {Hj : List Int} {Dx : Int} {Dy : Int} {Hk : Option Addr} {Hl : Nat} {r : (List Int)} (h : M.slices_heapSortOrdered_int Hj Dx Dy = some r) :
    Cal2 Tryz.prog 178 [(Sl Hk Hj Hl), (I Dx), (I Dy)] [Ch.own 0 0 (Sl Hk Hj Hl) Hj] (fun n0 v L => v = (.tuple #[]) ∧ L = [Ch.own 0 0 (Sl Hk r Hl) r] ∧ r.length = Hj.length) := by
 refine cal2 (n := 56) Tryz.func178 rfl rfl rfl rfl ?_
 intro S0 σ0 n0 hn0 H
 unfold M.slices_heapSortOrdered_int at h
 refine c_seq (rg (sm (I Dx) rfl (sa (I Dx) rfl (w_end (q_then (c_seq (rg (sa (I 0) rfl (w_end (q_then (c_seq ?_)))))))))))
 refine rg (sm (I Dy) rfl (sm (I Dx) rfl (st (v := (I (w64 (Dy - Dx)))) (rv_sub (a := Dy) (b := Dx) rfl rfl) (sa (I (w64 (Dy - Dx))) rfl (w_end (q_then (c_seq (c_seq (rg (sm (I (w64 (Dy - Dx))) rfl (st (v := (I (w64 ((w64 (Dy - Dx)) - 1)))) (rv_sub (a := (w64 (Dy - Dx))) (b := 1) rfl rfl) ?_)))))))))))
 refine st (v := (I (w64 ((w64 ((w64 (Dy - Dx)) - 1)).tdiv 2)))) (rv_quo (a := (w64 ((w64 (Dy - Dx)) - 1))) (b := 2) rfl rfl (by decide)) ?_
 refine sa (I (w64 ((w64 ((w64 (Dy - Dx)) - 1)).tdiv 2))) rfl (w_end (q_then ?_))
 obtain ⟨o1, hj, h'⟩ := bind_some h
 clear h
 refine c_cut (fun e a w => e = .normal ∧ ∃ (ρ : Nat → Value) (σ : St), a = fr 56 (updL ρ [(0, (Sl Hk o1 Hl)), (6, (I Dx)), (7, (I 0)), (8, (I (w64 (Dy - Dx))))]) ∧ w = σ.w ∧ Hp S0 σ0 σ [Ch.own 0 0 (Sl Hk o1 Hl) o1] ∧ o1.length = Hj.length) ?_ ?_
 ·clear h'
  rename _ = some o1 => h
  refine c_blk (wp_loopM _ h (fun s2 a w => ∃ (ρ : Nat → Value) (σ : St), a = fr 56 (updL ρ [(0, (Sl Hk s2.1 Hl)), (6, (I Dx)), (7, (I 0)), (8, (I (w64 (Dy - Dx)))), (9, (I s2.2))]) ∧ w = σ.w ∧ Hp S0 σ0 σ [Ch.own 0 0 (Sl Hk s2.1 Hl) s2.1] ∧ s2.1.length = Hj.length) ⟨_, σ0, fr_join ⟨rfl, rfl, rfl, rfl, rfl, trivial⟩, rfl, H.sel' [0] rfl rfl, rfl⟩ ?_)
  clear h H
  rintro s2 a w o ⟨ρ, σ3, rfl, rfl, H, hn4⟩ h hres
  refine c_seq (c_seq (rg (sm (I s2.2) rfl (st (v := (B (decide (0 ≤ s2.2)))) (rv_geq (a := s2.2) (b := 0) rfl rfl) (w_end (q_then ?_))))))
  refine cd_cond (decide (0 ≤ s2.2)) rfl (fun hb5 => ?_) (fun hb5 => ?_)
  ·replace h := bif_t hb5 h
   refine c_skip (q_then (c_seq (c_blk (rg (sm (Sl Hk s2.1 Hl) rfl (sm (I s2.2) rfl (sm (I (w64 (Dy - Dx))) rfl (sm (I Dx) rfl ?_))))))))
   revert h; refine br fun r6 hx7 h => ?_
   have hc8 := c_slices_siftDownOrdered_int (Hk := Hk) (Hl := Hl) hx7
   refine st_call (cx_call hc8 (ent_f hc8.fn rfl) hn0 (H.sel' [0] rfl rfl : Hp S0 σ0 _ ([_] ++ _))) wn ?_
   rintro _ σ10 ⟨_, ⟨rfl, rfl, hn9⟩, H, -⟩
   replace H : Hp _ _ _ [_] := H
   have hsl : (Sl Hk s2.1 Hl) = (Sl Hk r6 Hl) := sl_len hn9.symm
   try rw [hsl]
   try rw [hsl] at H
   clear hsl
   refine w_end (q_blk (q_then (rg (sm (I s2.2) rfl (st (v := (I (w64 (s2.2 - 1)))) (rv_sub (a := s2.2) (b := 1) rfl rfl) (sa (I (w64 (s2.2 - 1))) rfl (w_end (q_then ?_))))))))
   obtain rfl := sj h
   exact ⟨_, rfl, _, σ10, fr_join ⟨rfl, rfl, rfl, rfl, rfl, trivial⟩, rfl, H.sel' [0] rfl rfl, (hn9.trans hn4)⟩
  ·replace h := bif_f hb5 h
   refine c_exit (q_then_x (q_then_x (q_blk_hit ?_)))
   obtain rfl := sj h
   obtain rfl := hres _ rfl
   exact ⟨rfl, _, σ3, fr_join ⟨rfl, rfl, rfl, rfl, trivial⟩, rfl, H.sel' [0] rfl rfl, hn4⟩
 ·clear hj
  have h := h'
  clear h' H
  rintro e a w ⟨rfl, ρ, σ11, rfl, rfl, H, hn12⟩
  refine q_then (c_seq (rg (sm (I (w64 (Dy - Dx))) rfl (st (v := (I (w64 ((w64 (Dy - Dx)) - 1)))) (rv_sub (a := (w64 (Dy - Dx))) (b := 1) rfl rfl) (sa (I (w64 ((w64 (Dy - Dx)) - 1))) rfl (w_end (q_then ?_)))))))
  obtain ⟨o13, hj, h'⟩ := bind_some h
  clear h
  refine c_cut (fun e a w => e = .normal ∧ ∃ (ρ : Nat → Value) (σ : St), a = fr 56 (updL ρ [(0, (Sl Hk o13 Hl))]) ∧ w = σ.w ∧ Hp S0 σ0 σ [Ch.own 0 0 (Sl Hk o13 Hl) o13] ∧ o13.length = o1.length) ?_ ?_
  ·clear h'
   rename _ = some o13 => h
   refine c_blk (wp_loopM _ h (fun s14 a w => ∃ (ρ : Nat → Value) (σ : St), a = fr 56 (updL ρ [(0, (Sl Hk s14.1 Hl)), (6, (I Dx)), (7, (I 0)), (10, (I s14.2))]) ∧ w = σ.w ∧ Hp S0 σ0 σ [Ch.own 0 0 (Sl Hk s14.1 Hl) s14.1] ∧ s14.1.length = o1.length) ⟨_, σ11, fr_join ⟨rfl, rfl, rfl, rfl, trivial⟩, rfl, H.sel' [0] rfl rfl, rfl⟩ ?_)
   clear h H
   rintro s14 a w o ⟨ρ, σ15, rfl, rfl, H, hn16⟩ h hres
   refine c_seq (c_seq (rg (sm (I s14.2) rfl (st (v := (B (decide (0 ≤ s14.2)))) (rv_geq (a := s14.2) (b := 0) rfl rfl) (w_end (q_then ?_))))))
   refine cd_cond (decide (0 ≤ s14.2)) rfl (fun hb17 => ?_) (fun hb17 => ?_)
   ·replace h := bif_t hb17 h
    refine c_skip (q_then (c_seq (c_blk (c_seq ?_))))
    revert h; refine br fun x18 hx19 h => ?_
    obtain ⟨b21, o22, hi20, -⟩ := (H.own 0 rfl).ix hx19
    have hc23 := ((H.own 0 rfl).at hx19 hi20).int
    revert h; refine br fun x24 hx25 h => ?_
    obtain ⟨b27, o28, hi26, -⟩ := (H.own 0 rfl).ix hx25
    have hc29 := ((H.own 0 rfl).at hx25 hi26).int
    revert h; refine br fun x30 hx31 h => ?_
    obtain ⟨b33, o34, hi32, -⟩ := (H.own 0 rfl).ix hx31
    have Hs := H
    refine rg2 (σ := σ15) (Nm := Unit) 18 [17] [[false], [true]] [[(0, 0)], [(0, 0)], [(0, 0), (1, 1)], [(0, 0), (1, 1)], [(0, 0), (1, 1)], [(0, 0), (1, 1)], [(0, 0)], [(0, 0)], [(0, 0)], [(0, 0)], [(0, 0)], [(0, 0)], [(0, 0)], [(0, 0)], [(0, 0)], [(0, 0)], [(0, 0)], [(0, 1)]] 1 [fun _ => fun σm => Hp S0 σ0 σm [Ch.own 0 0 (Sl Hk s14.1 Hl) s14.1] ∧ Md (cov []) σ15 σm, fun _ => fun σm => Hp S0 σ0 σm [Ch.own 0 0 (Sl Hk s14.1 Hl) (s14.1.set Dx.toNat x18)] ∧ Md (fun i => (cov []) i ∨ (fun b => blk (Sl Hk s14.1 Hl) = some b) i) σ15 σm] [fun _ => (Sl Hk s14.1 Hl), fun _ => (I Dx), fun _ => (Sl Hk s14.1 Hl), fun _ => (I Dx), fun _ => (I s14.2), fun _ => (I (w64 (Dx + s14.2))), fun _ => (Sl Hk s14.1 Hl), fun _ => (I Dx), fun _ => (I s14.2), fun _ => (I (w64 (Dx + s14.2))), fun _ => (pt b21 o22), fun _ => (I x18), fun _ => (Sl Hk s14.1 Hl), fun _ => (I Dx), fun _ => (pt b27 o28), fun _ => (I x24), fun _ => (pt b33 o34), fun _ => undef] () (by kernel_rfl) (by kernel_rfl) ?_ ?_ ?_
    ·intro σm m0
     exact ⟨H.grow (m0.mono fun _ h => h.elim), m0⟩
    ·refine ac rfl (by
       intro k _nm ρ σm hJ hoff hdep
       have e0 := look_off (N := 56) (hoff 0 rfl) rfl
       exact dp_v (v := (Sl Hk s14.1 Hl)) wn (rv_move e0) rfl hJ) ?_
     refine ac rfl (by
       intro k _nm ρ σm hJ hoff hdep
       have e6 := look_off (N := 56) (hoff 6 rfl) rfl
       exact dp_v (v := (I Dx)) wn (rv_move e6) rfl hJ) ?_
     refine ac rfl (by
       intro k _nm ρ σm hJ hoff hdep
       have e0 := look_off (N := 56) (hoff 0 rfl) rfl
       exact dp_v (v := (Sl Hk s14.1 Hl)) wn (rv_move e0) rfl hJ) ?_
     refine ac rfl (by
       intro k _nm ρ σm hJ hoff hdep
       have e6 := look_off (N := 56) (hoff 6 rfl) rfl
       exact dp_v (v := (I Dx)) wn (rv_move e6) rfl hJ) ?_
     refine ac rfl (by
       intro k _nm ρ σm hJ hoff hdep
       have e10 := look_off (N := 56) (hoff 10 rfl) rfl
       exact dp_v (v := (I s14.2)) wn (rv_move e10) rfl hJ) ?_
     refine ac rfl (by
       intro k _nm ρ σm hJ hoff hdep
       have e36 := hdep 3 rfl rfl 36 rfl
       have e37 := hdep 4 rfl rfl 37 rfl
       exact dp_v (v := (I (w64 (Dx + s14.2)))) wn (rv_add (a := Dx) (b := s14.2) e36 e37) rfl hJ) ?_
     refine ac rfl (by
       intro k _nm ρ σm hJ hoff hdep
       have e0 := look_off (N := 56) (hoff 0 rfl) rfl
       exact dp_v (v := (Sl Hk s14.1 Hl)) wn (rv_move e0) rfl hJ) ?_
     refine ac rfl (by
       intro k _nm ρ σm hJ hoff hdep
       have e6 := look_off (N := 56) (hoff 6 rfl) rfl
       exact dp_v (v := (I Dx)) wn (rv_move e6) rfl hJ) ?_
     refine ac rfl (by
       intro k _nm ρ σm hJ hoff hdep
       have e10 := look_off (N := 56) (hoff 10 rfl) rfl
       exact dp_v (v := (I s14.2)) wn (rv_move e10) rfl hJ) ?_
     refine ac rfl (by
       intro k _nm ρ σm hJ hoff hdep
       have e40 := hdep 7 rfl rfl 40 rfl
       have e41 := hdep 8 rfl rfl 41 rfl
       exact dp_v (v := (I (w64 (Dx + s14.2)))) wn (rv_add (a := Dx) (b := s14.2) e40 e41) rfl hJ) ?_
     refine ac rfl (by
       intro k _nm ρ σm hJ hoff hdep
       have e39 := hdep 6 rfl rfl 39 rfl
       have e42 := hdep 9 rfl rfl 42 rfl
       exact dp_v (v := (pt b21 o22)) wn (rv_ix Tryz.underlying27 ti3 e39 e42 hi20) rfl hJ) ?_
     refine all_cons (by
       refine ⟨?_, ?_⟩
       ·intro _nm ρ σm hJ hoff hdep
        have e43 := hdep 10 rfl rfl 43 rfl
        obtain ⟨H, m⟩ := id hJ
        have hc23 := ((H.own 0 rfl).at hx19 hi20).int
        exact dp_v (v := (I x18)) wn (rv_load1 Tryz.underlying3 rfl e43 hc23) rfl hJ
       trivial) ?_
     refine ac rfl (by
       intro k _nm ρ σm hJ hoff hdep
       have e0 := look_off (N := 56) (hoff 0 rfl) rfl
       exact dp_v (v := (Sl Hk s14.1 Hl)) wn (rv_move e0) rfl hJ) ?_
     refine ac rfl (by
       intro k _nm ρ σm hJ hoff hdep
       have e6 := look_off (N := 56) (hoff 6 rfl) rfl
       exact dp_v (v := (I Dx)) wn (rv_move e6) rfl hJ) ?_
     refine ac rfl (by
       intro k _nm ρ σm hJ hoff hdep
       have e45 := hdep 12 rfl rfl 45 rfl
       have e46 := hdep 13 rfl rfl 46 rfl
       exact dp_v (v := (pt b27 o28)) wn (rv_ix Tryz.underlying27 ti3 e45 e46 hi26) rfl hJ) ?_
     refine all_cons (by
       refine ⟨?_, ?_⟩
       ·intro _nm ρ σm hJ hoff hdep
        have e47 := hdep 14 rfl rfl 47 rfl
        obtain ⟨H, m⟩ := id hJ
        have hc29 := ((H.own 0 rfl).at hx25 hi26).int
        exact dp_v (v := (I x24)) wn (rv_load1 Tryz.underlying3 rfl e47 hc29) rfl hJ
       trivial) ?_
     refine ac rfl (by
       intro k _nm ρ σm hJ hoff hdep
       have e33 := hdep 0 rfl rfl 33 rfl
       have e34 := hdep 1 rfl rfl 34 rfl
       exact dp_v (v := (pt b33 o34)) wn (rv_ix Tryz.underlying27 ti3 e33 e34 hi32) rfl hJ) ?_
     refine all_cons (by
       refine ⟨?_, ?_⟩
       ·intro _nm ρ σm hJ hoff hdep
        have e49 := hdep 16 rfl rfl 49 rfl
        have e44 := hdep 11 rfl rfl 44 rfl
        obtain ⟨H, m⟩ := id hJ
        refine dp_exS wn rfl (ex_store_own (e' := x18) (vs := [(I x18)]) (k := 0) H (i := 0) rfl ti3 hx31 hi32 e49 rfl e44 rfl rfl (Nat.le_of_ble_eq_true rfl) (by simp [plain]) (by rintro _ rfl; exact rfl)) ?_
        rintro σq ⟨H2, m2⟩
        exact ⟨_, (), rfl, ⟨H2.sel' [0] rfl rfl, m.comp m2⟩, stab [0, 1, 2, 3, 4, 5, 6, 7, 8, 9, 10, 11, 12, 13, 14, 15, 16] (by kernel_rfl) ⟨rfl, rfl, rfl, rfl, rfl, rfl, rfl, rfl, rfl, rfl, rfl, rfl, rfl, rfl, rfl, rfl, rfl, trivial⟩⟩
       trivial) ?_
     exact all_nil
    ·intro _nm ρ σ35 hJ hoff hrel
     have e0 := look_off (N := 56) (hoff 0 rfl) rfl
     have e6 := look_off (N := 56) (hoff 6 rfl) rfl
     have e7 := look_off (N := 56) (hoff 7 rfl) rfl
     have e10 := look_off (N := 56) (hoff 10 rfl) rfl
     have e35 := hrel 2 rfl 35 rfl
     have e38 := hrel 5 rfl 38 rfl
     have e48 := hrel 15 rfl 48 rfl
     obtain ⟨H, -⟩ := (show Hp S0 σ0 σ35 [Ch.own 0 0 (Sl Hk s14.1 Hl) (s14.1.set Dx.toNat x18)] ∧ Md (fun i => (cov []) i ∨ (fun b => blk (Sl Hk s14.1 Hl) = some b) i) σ15 σ35 from hJ)
     clear hJ Hs
     rw [fr_lookL (L := [(0, (Sl Hk s14.1 Hl)), (6, (I Dx)), (7, (I 0)), (10, (I s14.2)), (35, (Sl Hk s14.1 Hl)), (38, (I (w64 (Dx + s14.2)))), (48, (I x24))]) ⟨e0, e6, e7, e10, e35, e38, e48, trivial⟩]
     clear hoff hrel e0 e6 e7 e10 e35 e38 e48
     have hsl : (Sl Hk s14.1 Hl) = (Sl Hk (s14.1.set Dx.toNat x18) Hl) := sl_len (by simp)
     rw [hsl]; rw [hsl] at H; clear hsl
     revert h; refine br fun x36 hx37 h => ?_
     obtain ⟨b39, o40, hi38, -⟩ := (H.own 0 rfl).ix hx37
     refine st (v := (pt b39 o40)) (rv_ix Tryz.underlying27 ti3 rfl rfl hi38) ?_
     refine st_exS (ex_store_own (e' := x24) (vs := [(I x24)]) (k := 0) H (i := 0) rfl ti3 hx37 hi38 rfl rfl rfl rfl rfl (Nat.le_of_ble_eq_true rfl) (by simp [plain]) (by rintro _ rfl; exact rfl)) wn ?_
     rintro σ41 ⟨H, -⟩
     have hsl : (Sl Hk (s14.1.set Dx.toNat x18) Hl) = (Sl Hk ((s14.1.set Dx.toNat x18).set (w64 (Dx + s14.2)).toNat x24) Hl) := sl_len List.length_set.symm
     rw [hsl]; rw [hsl] at H; clear hsl
     refine w_end (q_then (rg (sm (Sl Hk ((s14.1.set Dx.toNat x18).set (w64 (Dx + s14.2)).toNat x24) Hl) rfl (sm (I 0) rfl (sm (I s14.2) rfl (sm (I Dx) rfl ?_))))))
     revert h; refine br fun r42 hx43 h => ?_
     have hc44 := c_slices_siftDownOrdered_int (Hk := Hk) (Hl := Hl) hx43
     refine st_call (cx_call hc44 (ent_f hc44.fn rfl) hn0 (H.sel' [0] rfl rfl : Hp S0 σ0 _ ([_] ++ _))) wn ?_
     rintro _ σ46 ⟨_, ⟨rfl, rfl, hn45⟩, H, -⟩
     replace H : Hp _ _ _ [_] := H
     have hsl : (Sl Hk ((s14.1.set Dx.toNat x18).set (w64 (Dx + s14.2)).toNat x24) Hl) = (Sl Hk r42 Hl) := sl_len hn45.symm
     try rw [hsl]
     try rw [hsl] at H
     clear hsl
     refine w_end (q_blk (q_then (rg (sm (I s14.2) rfl (st (v := (I (w64 (s14.2 - 1)))) (rv_sub (a := s14.2) (b := 1) rfl rfl) (sa (I (w64 (s14.2 - 1))) rfl (w_end (q_then ?_))))))))
     obtain rfl := sj h
     exact ⟨_, rfl, _, σ46, fr_join ⟨rfl, rfl, rfl, rfl, trivial⟩, rfl, H.sel' [0] rfl rfl, ((hn45.trans (List.length_set.trans (List.length_set.trans (hn16.trans hn12)))).trans hn12.symm)⟩
   ·replace h := bif_f hb17 h
    refine c_exit (q_then_x (q_then_x (q_blk_hit ?_)))
    obtain rfl := sj h
    obtain rfl := hres _ rfl
    exact ⟨rfl, _, σ15, fr_join ⟨rfl, trivial⟩, rfl, H.sel' [0] rfl rfl, ((hn16.trans hn12).trans hn12.symm)⟩
  ·clear hj
   have h := h'
   clear h' H
   rintro e a w ⟨rfl, ρ, σ47, rfl, rfl, H, hn48⟩
   obtain rfl := sj h
   exact fin_end (v := (.tuple #[])) (results_ok Tryz.results178 res_nil rfl) ⟨rfl, rfl, (hn48.trans hn12)⟩ (H.sel' [0] rfl rfl)

theorem c_slices_order2Ordered_int {Hj : List Int} {Dx : Int} {Dy : Int} {Hq : Int} {Hk : Option Addr} {Hl : Nat} {Hr Ht Hu : Nat} {Hv Hw : List Value} {r : Int × Int × Int} (h : M.slices_order2Ordered_int Hj Dx Dy Hq = some r) :
    Cal2 Tryz.prog 212 [(Sl Hk Hj Hl), (I Dx), (I Dy), (pt Ht Hu)] [Ch.ro 0 (Sl Hk Hj Hl) Hj, Ch.bx Hr Ht Hu [(I Hq)] Hv Hw] (fun n0 v L => v = (.tuple #[(I r.1), (I r.2.1)]) ∧ L = [Ch.bx Hr Ht Hu [(I r.2.2)] Hv Hw]) := by
 refine cal2 (n := 28) Tryz.func212 rfl rfl rfl rfl ?_
 intro S0 σ0 n0 hn0 H
 unfold M.slices_order2Ordered_int at h
 refine c_seq (rg (sa (I 0) rfl (sa (I 0) rfl (w_end (q_then (c_seq (c_seq ?_)))))))
 refine rgP (σ := σ0) 8 (by kernel_rfl) (by kernel_rfl) (by kernel_rfl) ?_
 refine sq (v := (Sl Hk Hj Hl)) (rv_move rfl) (sq (v := (I Dy)) (rv_move rfl) ?_)
 revert h; refine br fun x1 hx2 h => ?_
 obtain ⟨b4, o5, hi3, -⟩ := (H.ro 0 rfl).ix hx2
 refine sq (v := (pt b4 o5)) (rv_ix Tryz.underlying27 ti3 rfl rfl hi3) ?_
 have hc6 := ((H.ro 0 rfl).at hx2 hi3).int
 refine sq (v := (I x1)) (rv_load1 Tryz.underlying3 rfl rfl hc6) (sq (v := (Sl Hk Hj Hl)) (rv_move rfl) (sq (v := (I Dx)) (rv_move rfl) ?_))
 revert h; refine br fun x7 hx8 h => ?_
 obtain ⟨b10, o11, hi9, -⟩ := (H.ro 0 rfl).ix hx8
 refine sq (v := (pt b10 o11)) (rv_ix Tryz.underlying27 ti3 rfl rfl hi9) ?_
 have hc12 := ((H.ro 0 rfl).at hx8 hi9).int
 refine sq (v := (I x7)) (rv_load1 Tryz.underlying3 rfl rfl hc12) (sq_end ?_)
 intro σ13 hm14
 replace H := H.grow (hm14.mono fun _ h => h); clear hm14
 revert h; refine br fun r15 hx16 h => ?_
 have hc17 := c_cmp_Less_int hx16
 refine st_call (cx_call hc17 (ent_f hc17.fn rfl) hn0 (H.sel' [0, 1] rfl rfl : Hp S0 σ0 _ ([] ++ _))) wn ?_
 rintro _ σ18 ⟨_, ⟨rfl, rfl⟩, H, -⟩
 replace H : Hp _ _ _ [_, _] := H
 refine w_end (q_then ?_)
 refine cd_cond r15 rfl (fun hb19 => ?_) (fun hb19 => ?_)
 ·replace h := bif_t hb19 h
  refine c_seq (rg (sm (pt Ht Hu) rfl (st (v := (pt Ht Hu)) (rv_nilCheck rfl) ?_)))
  have hc20 := H.cell (u := (I Hq)) (o' := Hu) 1 0 rfl rfl rfl
  refine st (v := (I Hq)) (rv_load1 Tryz.underlying3 rfl rfl hc20) (st (v := (I (w64 (Hq + 1)))) (rv_add (a := Hq) (b := 1) rfl rfl) (st (v := (pt Ht Hu)) (rv_nilCheck rfl) ?_))
  refine st_exS (ex_store_box (k := 0) (cs := [(I Hq)]) (vs := [(I (w64 (Hq + 1)))]) (cs' := [(I (w64 (Hq + 1)))]) H (i := 1) rfl ti3 rfl rfl rfl rfl rfl (Nat.le_of_ble_eq_true rfl) (by simp [plain]) rfl) wn ?_
  rintro σ21 ⟨H, -⟩
  refine w_end (q_then (c_seq (rg (sm (I Dy) rfl (sm (I Dx) rfl (sa (I Dy) rfl (sa (I Dx) rfl (w_end (q_then (c_ret (q_then_r ?_)))))))))))
  obtain rfl := sj h
  exact fin_ret (v := (.tuple #[(I Dy), (I Dx)])) (results_ok Tryz.results212 (res_tmp (v := (I Dy)) rfl (res_tmp (v := (I Dx)) rfl res_nil)) rfl) ⟨rfl, rfl⟩ (H.sel' [0] rfl rfl)
 ·replace h := bif_f hb19 h
  refine c_skip (q_then (c_seq (rg (sm (I Dx) rfl (sm (I Dy) rfl (sa (I Dx) rfl (sa (I Dy) rfl (w_end (q_then (c_ret ?_))))))))))
  obtain rfl := sj h
  exact fin_ret (v := (.tuple #[(I Dx), (I Dy)])) (results_ok Tryz.results212 (res_tmp (v := (I Dx)) rfl (res_tmp (v := (I Dy)) rfl res_nil)) rfl) ⟨rfl, rfl⟩ (H.sel' [1] rfl rfl)

theorem c_slices_medianOrdered_int {Hj : List Int} {Dx : Int} {Dy : Int} {Hx : Int} {Hy : Int} {Hk : Option Addr} {Hl : Nat} {Hz Ja Jb : Nat} {Jc Jd : List Value} {r : Int × Int} (h : M.slices_medianOrdered_int Hj Dx Dy Hx Hy = some r) :
    Cal2 Tryz.prog 201 [(Sl Hk Hj Hl), (I Dx), (I Dy), (I Hx), (pt Ja Jb)] [Ch.ro 0 (Sl Hk Hj Hl) Hj, Ch.bx Hz Ja Jb [(I Hy)] Jc Jd] (fun n0 v L => v = (I r.1) ∧ L = [Ch.bx Hz Ja Jb [(I r.2)] Jc Jd]) := by
 refine cal2 (n := 36) Tryz.func201 rfl rfl rfl rfl ?_
 intro S0 σ0 n0 hn0 H
 unfold M.slices_medianOrdered_int at h
 refine c_seq (rg (sa (I 0) rfl (w_end (q_then (c_seq (rg (sm (Sl Hk Hj Hl) rfl (sm (I Dx) rfl (sm (I Dy) rfl (sm (pt Ja Jb) rfl ?_))))))))))
 revert h; refine br fun r1 hx2 h => ?_
 have hc3 := c_slices_order2Ordered_int (Hk := Hk) (Hl := Hl) (Hr := Hz) (Ht := Ja) (Hu := Jb) (Hv := Jc) (Hw := Jd) hx2
 refine st_call (cx_call hc3 (ent_f hc3.fn rfl) hn0 (H.sel' [0, 1, 0] rfl rfl : Hp S0 σ0 _ ([_, _] ++ _))) wn ?_
 rintro _ σ4 ⟨_, ⟨rfl, rfl⟩, H, -⟩
 replace H : Hp _ _ _ [_, _] := H
 refine sm (.tuple #[(I r1.1), (I r1.2.1)]) rfl (st (v := (I r1.1)) (rv_extract rfl rfl) (st (v := (I r1.2.1)) (rv_extract rfl rfl) (sa (I r1.1) rfl (sa (I r1.2.1) rfl (w_end (q_then (c_seq (rg (sm (Sl Hk Hj Hl) rfl (sm (I r1.2.1) rfl (sm (I Hx) rfl ?_)))))))))))
 refine sm (pt Ja Jb) rfl ?_
 revert h; refine br fun r5 hx6 h => ?_
 have hc7 := c_slices_order2Ordered_int (Hk := Hk) (Hl := Hl) (Hr := Hz) (Ht := Ja) (Hu := Jb) (Hv := Jc) (Hw := Jd) hx6
 refine st_call (cx_call hc7 (ent_f hc7.fn rfl) hn0 (H.sel' [1, 0, 1] rfl rfl : Hp S0 σ0 _ ([_, _] ++ _))) wn ?_
 rintro _ σ8 ⟨_, ⟨rfl, rfl⟩, H, -⟩
 replace H : Hp _ _ _ [_, _] := H
 refine sm (.tuple #[(I r5.1), (I r5.2.1)]) rfl (st (v := (I r5.1)) (rv_extract rfl rfl) (st (v := (I r5.2.1)) (rv_extract rfl rfl) (sa (I r5.1) rfl (sa (I r5.2.1) rfl (w_end (q_then (c_seq (rg (sm (Sl Hk Hj Hl) rfl (sm (I r1.1) rfl (sm (I r5.1) rfl ?_)))))))))))
 refine sm (pt Ja Jb) rfl ?_
 revert h; refine br fun r9 hx10 h => ?_
 have hc11 := c_slices_order2Ordered_int (Hk := Hk) (Hl := Hl) (Hr := Hz) (Ht := Ja) (Hu := Jb) (Hv := Jc) (Hw := Jd) hx10
 refine st_call (cx_call hc11 (ent_f hc11.fn rfl) hn0 (H.sel' [1, 0, 1] rfl rfl : Hp S0 σ0 _ ([_, _] ++ _))) wn ?_
 rintro _ σ12 ⟨_, ⟨rfl, rfl⟩, H, -⟩
 replace H : Hp _ _ _ [_, _] := H
 refine sm (.tuple #[(I r9.1), (I r9.2.1)]) rfl (st (v := (I r9.1)) (rv_extract rfl rfl) (st (v := (I r9.2.1)) (rv_extract rfl rfl) (sa (I r9.1) rfl (sa (I r9.2.1) rfl (w_end (q_then (c_seq (rg (sm (I r9.2.1) rfl (sa (I r9.2.1) rfl (w_end ?_)))))))))))
 refine q_then (c_ret ?_)
 obtain rfl := sj h
 exact fin_ret (v := (I r9.2.1)) (results_ok Tryz.results201 (res_tmp (v := (I r9.2.1)) rfl res_nil) rfl) ⟨rfl, rfl⟩ (H.sel' [0] rfl rfl)

theorem c_slices_medianAdjacentOrdered_int {Hj : List Int} {Dx : Int} {Je : Int} {Hk : Option Addr} {Hl : Nat} {Jf Jg Jh : Nat} {Ji Jj : List Value} {r : Int × Int} (h : M.slices_medianAdjacentOrdered_int Hj Dx Je = some r) :
    Cal2 Tryz.prog 200 [(Sl Hk Hj Hl), (I Dx), (pt Jg Jh)] [Ch.ro 0 (Sl Hk Hj Hl) Hj, Ch.bx Jf Jg Jh [(I Je)] Ji Jj] (fun n0 v L => v = (I r.1) ∧ L = [Ch.bx Jf Jg Jh [(I r.2)] Ji Jj]) := by
 refine cal2 (n := 15) Tryz.func200 rfl rfl rfl rfl ?_
 intro S0 σ0 n0 hn0 H
 unfold M.slices_medianAdjacentOrdered_int at h
 refine c_seq (rg (sa (I 0) rfl (w_end (q_then (c_seq (rg (sm (Sl Hk Hj Hl) rfl (sm (I Dx) rfl (st (v := (I (w64 (Dx - 1)))) (rv_sub (a := Dx) (b := 1) rfl rfl) (sm (I Dx) rfl (sm (I Dx) rfl ?_)))))))))))
 refine st (v := (I (w64 (Dx + 1)))) (rv_add (a := Dx) (b := 1) rfl rfl) (sm (pt Jg Jh) rfl ?_)
 revert h; refine br fun r1 hx2 h => ?_
 have hc3 := c_slices_medianOrdered_int (Hk := Hk) (Hl := Hl) (Hz := Jf) (Ja := Jg) (Jb := Jh) (Jc := Ji) (Jd := Jj) hx2
 refine st_call (cx_call hc3 (ent_f hc3.fn rfl) hn0 (H.sel' [0, 1, 0] rfl rfl : Hp S0 σ0 _ ([_, _] ++ _))) wn ?_
 rintro _ σ4 ⟨_, ⟨rfl, rfl⟩, H, -⟩
 replace H : Hp _ _ _ [_, _] := H
 refine sa (I r1.1) rfl (w_end (q_then (c_ret ?_)))
 obtain rfl := sj h
 exact fin_ret (v := (I r1.1)) (results_ok Tryz.results200 (res_tmp (v := (I r1.1)) rfl res_nil) rfl) ⟨rfl, rfl⟩ (H.sel' [0] rfl rfl)

theorem c_slices_choosePivotOrdered_int {Hj : List Int} {Dx : Int} {Dy : Int} {Hk : Option Addr} {Hl : Nat} {r : Int × Int} (h : M.slices_choosePivotOrdered_int Hj Dx Dy = some r) :
    Cal2 Tryz.prog 180 [(Sl Hk Hj Hl), (I Dx), (I Dy)] [Ch.ro 0 (Sl Hk Hj Hl) Hj] (fun n0 v L => v = (.tuple #[(I r.1), (I r.2)]) ∧ L = []) := by
 refine cal2 (n := 57) Tryz.func180 rfl rfl rfl rfl ?_
 intro S0 σ0 n0 hn0 H
 unfold M.slices_choosePivotOrdered_int at h
 refine c_seq (rg (sa (I 0) rfl (sa (I 0) rfl (w_end (q_then (c_seq (rg (sm (I Dy) rfl (sm (I Dx) rfl (st (v := (I (w64 (Dy - Dx)))) (rv_sub (a := Dy) (b := Dx) rfl rfl) (sa (I (w64 (Dy - Dx))) rfl ?_)))))))))))
 refine w_end (q_then (c_seq (rg (st_ex (ex_alloc (cs := [(I 0)]) H hn0 ti3 rfl) wn ?_))))
 rintro _ σ2 ⟨b1, rfl, H, -⟩
 refine w_end (q_then (c_seq (rg (sm (I Dx) rfl (sm (I (w64 (Dy - Dx))) rfl ?_)))))
 refine st (v := (I (w64 ((w64 (Dy - Dx)).tdiv 4)))) (rv_quo (a := (w64 (Dy - Dx))) (b := 4) rfl rfl (by decide)) ?_
 refine st (v := (I (w64 ((w64 ((w64 (Dy - Dx)).tdiv 4)) * 1)))) (rv_mul (a := (w64 ((w64 (Dy - Dx)).tdiv 4))) (b := 1) rfl rfl) (st (v := (I (w64 (Dx + (w64 ((w64 ((w64 (Dy - Dx)).tdiv 4)) * 1)))))) (rv_add (a := Dx) (b := (w64 ((w64 ((w64 (Dy - Dx)).tdiv 4)) * 1))) rfl rfl) (sa (I (w64 (Dx + (w64 ((w64 ((w64 (Dy - Dx)).tdiv 4)) * 1))))) rfl (w_end (q_then (c_seq (rg (sm (I Dx) rfl (sm (I (w64 (Dy - Dx))) rfl ?_))))))))
 refine st (v := (I (w64 ((w64 (Dy - Dx)).tdiv 4)))) (rv_quo (a := (w64 (Dy - Dx))) (b := 4) rfl rfl (by decide)) ?_
 refine st (v := (I (w64 ((w64 ((w64 (Dy - Dx)).tdiv 4)) * 2)))) (rv_mul (a := (w64 ((w64 (Dy - Dx)).tdiv 4))) (b := 2) rfl rfl) (st (v := (I (w64 (Dx + (w64 ((w64 ((w64 (Dy - Dx)).tdiv 4)) * 2)))))) (rv_add (a := Dx) (b := (w64 ((w64 ((w64 (Dy - Dx)).tdiv 4)) * 2))) rfl rfl) (sa (I (w64 (Dx + (w64 ((w64 ((w64 (Dy - Dx)).tdiv 4)) * 2))))) rfl (w_end (q_then (c_seq (rg (sm (I Dx) rfl (sm (I (w64 (Dy - Dx))) rfl ?_))))))))
 refine st (v := (I (w64 ((w64 (Dy - Dx)).tdiv 4)))) (rv_quo (a := (w64 (Dy - Dx))) (b := 4) rfl rfl (by decide)) ?_
 refine st (v := (I (w64 ((w64 ((w64 (Dy - Dx)).tdiv 4)) * 3)))) (rv_mul (a := (w64 ((w64 (Dy - Dx)).tdiv 4))) (b := 3) rfl rfl) (st (v := (I (w64 (Dx + (w64 ((w64 ((w64 (Dy - Dx)).tdiv 4)) * 3)))))) (rv_add (a := Dx) (b := (w64 ((w64 ((w64 (Dy - Dx)).tdiv 4)) * 3))) rfl rfl) (sa (I (w64 (Dx + (w64 ((w64 ((w64 (Dy - Dx)).tdiv 4)) * 3))))) rfl (w_end (q_then (c_seq (c_seq (rg (sm (I (w64 (Dy - Dx))) rfl (st (v := (B (decide (8 ≤ (w64 (Dy - Dx)))))) (rv_geq (a := (w64 (Dy - Dx))) (b := 8) rfl rfl) (w_end (q_then ?_)))))))))))
 obtain ⟨o3, hj, h'⟩ := bind_some h
 clear h
 refine c_cut (fun e a w => e = .normal ∧ ∃ (ρ : Nat → Value) (σ : St), a = fr 57 (updL ρ [(9, (pt b1 0)), (11, (I o3.2))]) ∧ w = σ.w ∧ Hp S0 σ0 σ [Ch.bx n0 b1 0 [(I o3.1)] [] []]) ?_ ?_
 ·clear h'
  rename _ = some o3 => h
  refine cd_cond (decide (8 ≤ (w64 (Dy - Dx)))) rfl (fun hb4 => ?_) (fun hb4 => ?_)
  ·replace h := bif_t hb4 h
   refine c_seq (c_seq (rg (sm (I (w64 (Dy - Dx))) rfl (st (v := (B (decide (50 ≤ (w64 (Dy - Dx)))))) (rv_geq (a := (w64 (Dy - Dx))) (b := 50) rfl rfl) (w_end (q_then ?_))))))
   obtain ⟨o5, hj, h'⟩ := bind_some h
   clear h
   refine c_cut (fun e a w => e = .normal ∧ ∃ (ρ : Nat → Value) (σ : St), a = fr 57 (updL ρ [(0, (Sl Hk Hj Hl)), (9, (pt b1 0)), (10, (I o5.2.1)), (11, (I o5.2.2.1)), (12, (I o5.2.2.2))]) ∧ w = σ.w ∧ Hp S0 σ0 σ [Ch.bx n0 b1 0 [(I o5.1)] [] [], Ch.ro 0 (Sl Hk Hj Hl) Hj]) ?_ ?_
   ·clear h'
    rename _ = some o5 => h
    refine cd_cond (decide (50 ≤ (w64 (Dy - Dx)))) rfl (fun hb6 => ?_) (fun hb6 => ?_)
    ·replace h := bif_t hb6 h
     refine c_seq (rg (sm (Sl Hk Hj Hl) rfl (sm (I (w64 (Dx + (w64 ((w64 ((w64 (Dy - Dx)).tdiv 4)) * 1))))) rfl ?_)))
     revert h; refine br fun r7 hx8 h => ?_
     have hc9 := c_slices_medianAdjacentOrdered_int (Hk := Hk) (Hl := Hl) (Jf := n0) (Jg := b1) (Jh := 0) (Ji := []) (Jj := []) hx8
     refine st_call (cx_call hc9 (ent_f hc9.fn rfl) hn0 (H.sel' [1, 0, 1] rfl rfl : Hp S0 σ0 _ ([_, _] ++ _))) wn ?_
     rintro _ σ10 ⟨_, ⟨rfl, rfl⟩, H, -⟩
     replace H : Hp _ _ _ [_, _] := H
     refine sa (I r7.1) rfl (w_end (q_then (c_seq (rg (sm (Sl Hk Hj Hl) rfl (sm (I (w64 (Dx + (w64 ((w64 ((w64 (Dy - Dx)).tdiv 4)) * 2))))) rfl ?_))))))
     revert h; refine br fun r11 hx12 h => ?_
     have hc13 := c_slices_medianAdjacentOrdered_int (Hk := Hk) (Hl := Hl) (Jf := n0) (Jg := b1) (Jh := 0) (Ji := []) (Jj := []) hx12
     refine st_call (cx_call hc13 (ent_f hc13.fn rfl) hn0 (H.sel' [1, 0, 1] rfl rfl : Hp S0 σ0 _ ([_, _] ++ _))) wn ?_
     rintro _ σ14 ⟨_, ⟨rfl, rfl⟩, H, -⟩
     replace H : Hp _ _ _ [_, _] := H
     refine sa (I r11.1) rfl (w_end (q_then (rg (sm (Sl Hk Hj Hl) rfl (sm (I (w64 (Dx + (w64 ((w64 ((w64 (Dy - Dx)).tdiv 4)) * 3))))) rfl ?_)))))
     revert h; refine br fun r15 hx16 h => ?_
     have hc17 := c_slices_medianAdjacentOrdered_int (Hk := Hk) (Hl := Hl) (Jf := n0) (Jg := b1) (Jh := 0) (Ji := []) (Jj := []) hx16
     refine st_call (cx_call hc17 (ent_f hc17.fn rfl) hn0 (H.sel' [1, 0, 1] rfl rfl : Hp S0 σ0 _ ([_, _] ++ _))) wn ?_
     rintro _ σ18 ⟨_, ⟨rfl, rfl⟩, H, -⟩
     replace H : Hp _ _ _ [_, _] := H
     refine sa (I r15.1) rfl (w_end ?_)
     obtain rfl := sj h
     exact ⟨rfl, _, σ18, fr_join ⟨rfl, rfl, rfl, rfl, rfl, trivial⟩, rfl, H.sel' [0, 1] rfl rfl⟩
    ·replace h := bif_f hb6 h
     refine c_skip ?_
     obtain rfl := sj h
     exact ⟨rfl, _, σ2, fr_join ⟨rfl, rfl, rfl, rfl, rfl, trivial⟩, rfl, H.sel' [0, 1] rfl rfl⟩
   ·clear hj
    have h := h'
    clear h' H
    rintro e a w ⟨rfl, ρ, σ19, rfl, rfl, H⟩
    refine q_then (rg (sm (Sl Hk Hj Hl) rfl (sm (I o5.2.1) rfl (sm (I o5.2.2.1) rfl (sm (I o5.2.2.2) rfl ?_)))))
    revert h; refine br fun r20 hx21 h => ?_
    have hc22 := c_slices_medianOrdered_int (Hk := Hk) (Hl := Hl) (Hz := n0) (Ja := b1) (Jb := 0) (Jc := []) (Jd := []) hx21
    refine st_call (cx_call hc22 (ent_f hc22.fn rfl) hn0 (H.sel' [1, 0, 1] rfl rfl : Hp S0 σ0 _ ([_, _] ++ _))) wn ?_
    rintro _ σ23 ⟨_, ⟨rfl, rfl⟩, H, -⟩
    replace H : Hp _ _ _ [_, _] := H
    refine sa (I r20.1) rfl (w_end ?_)
    obtain rfl := sj h
    exact ⟨rfl, _, σ23, fr_join ⟨rfl, rfl, trivial⟩, rfl, H.sel' [0] rfl rfl⟩
  ·replace h := bif_f hb4 h
   refine c_skip ?_
   obtain rfl := sj h
   exact ⟨rfl, _, σ2, fr_join ⟨rfl, rfl, trivial⟩, rfl, H.sel' [0] rfl rfl⟩
 ·clear hj
  have h := h'
  clear h' H
  rintro e a w ⟨rfl, ρ, σ24, rfl, rfl, H⟩
  refine q_then (c_seq (rg ?_))
  have hc25 := H.cell (u := (I o3.1)) (o' := 0) 0 0 rfl rfl rfl
  refine st (v := (I o3.1)) (rv_load1 Tryz.underlying3 rfl rfl hc25) (w_end (q_then (c_blk (c_seq (rg (st (v := (B (o3.1 == 0))) (rv_eql (a := o3.1) (b := 0) rfl rfl) (sa (B (o3.1 == 0)) rfl (w_end (q_then ?_)))))))))
  refine cd_cond (o3.1 == 0) rfl (fun hb26 => ?_) (fun hb26 => ?_)
  ·replace h := bif_t hb26 h
   refine c_seq (rg (sm (I o3.2) rfl (sa (I o3.2) rfl (sa (I 1) rfl (w_end (q_then (c_ret (q_blk_r ?_))))))))
   obtain rfl := sj h
   exact fin_ret (v := (.tuple #[(I o3.2), (I 1)])) (results_ok Tryz.results180 (res_tmp (v := (I o3.2)) rfl (res_tmp (v := (I 1)) rfl res_nil)) rfl) ⟨rfl, rfl⟩ (H.sel' [] rfl rfl)
  ·replace h := bif_f hb26 h
   refine c_seq (rg (st (v := (B (o3.1 == 12))) (rv_eql (a := o3.1) (b := 12) rfl rfl) (sa (B (o3.1 == 12)) rfl (w_end (q_then ?_)))))
   refine cd_cond (o3.1 == 12) rfl (fun hb27 => ?_) (fun hb27 => ?_)
   ·replace h := bif_t hb27 h
    refine c_seq (rg (sm (I o3.2) rfl (sa (I o3.2) rfl (sa (I 2) rfl (w_end (q_then (c_ret (q_blk_r ?_))))))))
    obtain rfl := sj h
    exact fin_ret (v := (.tuple #[(I o3.2), (I 2)])) (results_ok Tryz.results180 (res_tmp (v := (I o3.2)) rfl (res_tmp (v := (I 2)) rfl res_nil)) rfl) ⟨rfl, rfl⟩ (H.sel' [] rfl rfl)
   ·replace h := bif_f hb27 h
    refine c_seq (rg (sm (I o3.2) rfl (sa (I o3.2) rfl (sa (I 0) rfl (w_end (q_then (c_ret (q_blk_r ?_))))))))
    obtain rfl := sj h
    exact fin_ret (v := (.tuple #[(I o3.2), (I 0)])) (results_ok Tryz.results180 (res_tmp (v := (I o3.2)) rfl (res_tmp (v := (I 0)) rfl res_nil)) rfl) ⟨rfl, rfl⟩ (H.sel' [] rfl rfl)

theorem c_slices_reverseRangeOrdered_int {Hj : List Int} {Dx : Int} {Dy : Int} {Hk : Option Addr} {Hl : Nat} {r : (List Int)} (h : M.slices_reverseRangeOrdered_int Hj Dx Dy = some r) :
    Cal2 Tryz.prog 181 [(Sl Hk Hj Hl), (I Dx), (I Dy)] [Ch.own 0 0 (Sl Hk Hj Hl) Hj] (fun n0 v L => v = (.tuple #[]) ∧ L = [Ch.own 0 0 (Sl Hk r Hl) r] ∧ r.length = Hj.length) := by
 refine cal2 (n := 32) Tryz.func181 rfl rfl rfl rfl ?_
 intro S0 σ0 n0 hn0 H
 unfold M.slices_reverseRangeOrdered_int at h
 refine c_seq (rg (sm (I Dx) rfl (sa (I Dx) rfl (w_end (q_then (c_seq (rg (sm (I Dy) rfl (st (v := (I (w64 (Dy - 1)))) (rv_sub (a := Dy) (b := 1) rfl rfl) (sa (I (w64 (Dy - 1))) rfl (w_end ?_)))))))))))
 refine q_then ?_
 obtain ⟨o1, hj, h'⟩ := bind_some h
 clear h
 refine c_cut (fun e a w => e = .normal ∧ ∃ (ρ : Nat → Value) (σ : St), a = fr 32 (updL ρ [(0, (Sl Hk o1 Hl))]) ∧ w = σ.w ∧ Hp S0 σ0 σ [Ch.own 0 0 (Sl Hk o1 Hl) o1] ∧ o1.length = Hj.length) ?_ ?_
 ·clear h'
  rename _ = some o1 => h
  refine c_blk (wp_loopM _ h (fun s2 a w => ∃ (ρ : Nat → Value) (σ : St), a = fr 32 (updL ρ [(0, (Sl Hk s2.1 Hl)), (6, (I s2.2.1)), (7, (I s2.2.2))]) ∧ w = σ.w ∧ Hp S0 σ0 σ [Ch.own 0 0 (Sl Hk s2.1 Hl) s2.1] ∧ s2.1.length = Hj.length) ⟨_, σ0, fr_join ⟨rfl, rfl, rfl, trivial⟩, rfl, H.sel' [0] rfl rfl, rfl⟩ ?_)
  clear h H
  rintro s2 a w o ⟨ρ, σ3, rfl, rfl, H, hn4⟩ h hres
  refine c_seq (c_seq (rg (sm (I s2.2.1) rfl (sm (I s2.2.2) rfl (st (v := (B (decide (s2.2.1 < s2.2.2)))) (rv_lss (a := s2.2.1) (b := s2.2.2) rfl rfl) (w_end (q_then ?_)))))))
  refine cd_cond (decide (s2.2.1 < s2.2.2)) rfl (fun hb5 => ?_) (fun hb5 => ?_)
  ·replace h := bif_t hb5 h
   refine c_skip (q_then (c_blk (c_seq ?_)))
   revert h; refine br fun x6 hx7 h => ?_
   obtain ⟨b9, o10, hi8, -⟩ := (H.own 0 rfl).ix hx7
   have hc11 := ((H.own 0 rfl).at hx7 hi8).int
   revert h; refine br fun x12 hx13 h => ?_
   obtain ⟨b15, o16, hi14, -⟩ := (H.own 0 rfl).ix hx13
   have hc17 := ((H.own 0 rfl).at hx13 hi14).int
   revert h; refine br fun x18 hx19 h => ?_
   obtain ⟨b21, o22, hi20, -⟩ := (H.own 0 rfl).ix hx19
   have Hs := H
   refine rg2 (σ := σ3) (Nm := Unit) 14 [13] [[false], [true]] [[(0, 0)], [(0, 0)], [(0, 0), (1, 1)], [(0, 0), (1, 1)], [(0, 0)], [(0, 0)], [(0, 0)], [(0, 0)], [(0, 0)], [(0, 0)], [(0, 0)], [(0, 0)], [(0, 0)], [(0, 1)]] 1 [fun _ => fun σm => Hp S0 σ0 σm [Ch.own 0 0 (Sl Hk s2.1 Hl) s2.1] ∧ Md (cov []) σ3 σm, fun _ => fun σm => Hp S0 σ0 σm [Ch.own 0 0 (Sl Hk s2.1 Hl) (s2.1.set s2.2.1.toNat x6)] ∧ Md (fun i => (cov []) i ∨ (fun b => blk (Sl Hk s2.1 Hl) = some b) i) σ3 σm] [fun _ => (Sl Hk s2.1 Hl), fun _ => (I s2.2.1), fun _ => (Sl Hk s2.1 Hl), fun _ => (I s2.2.2), fun _ => (Sl Hk s2.1 Hl), fun _ => (I s2.2.2), fun _ => (pt b9 o10), fun _ => (I x6), fun _ => (Sl Hk s2.1 Hl), fun _ => (I s2.2.1), fun _ => (pt b15 o16), fun _ => (I x12), fun _ => (pt b21 o22), fun _ => undef] () (by kernel_rfl) (by kernel_rfl) ?_ ?_ ?_
   ·intro σm m0
    exact ⟨H.grow (m0.mono fun _ h => h.elim), m0⟩
   ·refine ac rfl (by
      intro k _nm ρ σm hJ hoff hdep
      have e0 := look_off (N := 32) (hoff 0 rfl) rfl
      exact dp_v (v := (Sl Hk s2.1 Hl)) wn (rv_move e0) rfl hJ) ?_
    refine ac rfl (by
      intro k _nm ρ σm hJ hoff hdep
      have e6 := look_off (N := 32) (hoff 6 rfl) rfl
      exact dp_v (v := (I s2.2.1)) wn (rv_move e6) rfl hJ) ?_
    refine ac rfl (by
      intro k _nm ρ σm hJ hoff hdep
      have e0 := look_off (N := 32) (hoff 0 rfl) rfl
      exact dp_v (v := (Sl Hk s2.1 Hl)) wn (rv_move e0) rfl hJ) ?_
    refine ac rfl (by
      intro k _nm ρ σm hJ hoff hdep
      have e7 := look_off (N := 32) (hoff 7 rfl) rfl
      exact dp_v (v := (I s2.2.2)) wn (rv_move e7) rfl hJ) ?_
    refine ac rfl (by
      intro k _nm ρ σm hJ hoff hdep
      have e0 := look_off (N := 32) (hoff 0 rfl) rfl
      exact dp_v (v := (Sl Hk s2.1 Hl)) wn (rv_move e0) rfl hJ) ?_
    refine ac rfl (by
      intro k _nm ρ σm hJ hoff hdep
      have e7 := look_off (N := 32) (hoff 7 rfl) rfl
      exact dp_v (v := (I s2.2.2)) wn (rv_move e7) rfl hJ) ?_
    refine ac rfl (by
      intro k _nm ρ σm hJ hoff hdep
      have e18 := hdep 4 rfl rfl 18 rfl
      have e19 := hdep 5 rfl rfl 19 rfl
      exact dp_v (v := (pt b9 o10)) wn (rv_ix Tryz.underlying27 ti3 e18 e19 hi8) rfl hJ) ?_
    refine all_cons (by
      refine ⟨?_, ?_⟩
      ·intro _nm ρ σm hJ hoff hdep
       have e20 := hdep 6 rfl rfl 20 rfl
       obtain ⟨H, m⟩ := id hJ
       have hc11 := ((H.own 0 rfl).at hx7 hi8).int
       exact dp_v (v := (I x6)) wn (rv_load1 Tryz.underlying3 rfl e20 hc11) rfl hJ
      trivial) ?_
    refine ac rfl (by
      intro k _nm ρ σm hJ hoff hdep
      have e0 := look_off (N := 32) (hoff 0 rfl) rfl
      exact dp_v (v := (Sl Hk s2.1 Hl)) wn (rv_move e0) rfl hJ) ?_
    refine ac rfl (by
      intro k _nm ρ σm hJ hoff hdep
      have e6 := look_off (N := 32) (hoff 6 rfl) rfl
      exact dp_v (v := (I s2.2.1)) wn (rv_move e6) rfl hJ) ?_
    refine ac rfl (by
      intro k _nm ρ σm hJ hoff hdep
      have e22 := hdep 8 rfl rfl 22 rfl
      have e23 := hdep 9 rfl rfl 23 rfl
      exact dp_v (v := (pt b15 o16)) wn (rv_ix Tryz.underlying27 ti3 e22 e23 hi14) rfl hJ) ?_
    refine all_cons (by
      refine ⟨?_, ?_⟩
      ·intro _nm ρ σm hJ hoff hdep
       have e24 := hdep 10 rfl rfl 24 rfl
       obtain ⟨H, m⟩ := id hJ
       have hc17 := ((H.own 0 rfl).at hx13 hi14).int
       exact dp_v (v := (I x12)) wn (rv_load1 Tryz.underlying3 rfl e24 hc17) rfl hJ
      trivial) ?_
    refine ac rfl (by
      intro k _nm ρ σm hJ hoff hdep
      have e14 := hdep 0 rfl rfl 14 rfl
      have e15 := hdep 1 rfl rfl 15 rfl
      exact dp_v (v := (pt b21 o22)) wn (rv_ix Tryz.underlying27 ti3 e14 e15 hi20) rfl hJ) ?_
    refine all_cons (by
      refine ⟨?_, ?_⟩
      ·intro _nm ρ σm hJ hoff hdep
       have e26 := hdep 12 rfl rfl 26 rfl
       have e21 := hdep 7 rfl rfl 21 rfl
       obtain ⟨H, m⟩ := id hJ
       refine dp_exS wn rfl (ex_store_own (e' := x6) (vs := [(I x6)]) (k := 0) H (i := 0) rfl ti3 hx19 hi20 e26 rfl e21 rfl rfl (Nat.le_of_ble_eq_true rfl) (by simp [plain]) (by rintro _ rfl; exact rfl)) ?_
       rintro σq ⟨H2, m2⟩
       exact ⟨_, (), rfl, ⟨H2.sel' [0] rfl rfl, m.comp m2⟩, stab [0, 1, 2, 3, 4, 5, 6, 7, 8, 9, 10, 11, 12] (by kernel_rfl) ⟨rfl, rfl, rfl, rfl, rfl, rfl, rfl, rfl, rfl, rfl, rfl, rfl, rfl, trivial⟩⟩
      trivial) ?_
    exact all_nil
   ·intro _nm ρ σ23 hJ hoff hrel
    have e0 := look_off (N := 32) (hoff 0 rfl) rfl
    have e6 := look_off (N := 32) (hoff 6 rfl) rfl
    have e7 := look_off (N := 32) (hoff 7 rfl) rfl
    have e16 := hrel 2 rfl 16 rfl
    have e17 := hrel 3 rfl 17 rfl
    have e25 := hrel 11 rfl 25 rfl
    obtain ⟨H, -⟩ := (show Hp S0 σ0 σ23 [Ch.own 0 0 (Sl Hk s2.1 Hl) (s2.1.set s2.2.1.toNat x6)] ∧ Md (fun i => (cov []) i ∨ (fun b => blk (Sl Hk s2.1 Hl) = some b) i) σ3 σ23 from hJ)
    clear hJ Hs
    rw [fr_lookL (L := [(0, (Sl Hk s2.1 Hl)), (6, (I s2.2.1)), (7, (I s2.2.2)), (16, (Sl Hk s2.1 Hl)), (17, (I s2.2.2)), (25, (I x12))]) ⟨e0, e6, e7, e16, e17, e25, trivial⟩]
    clear hoff hrel e0 e6 e7 e16 e17 e25
    have hsl : (Sl Hk s2.1 Hl) = (Sl Hk (s2.1.set s2.2.1.toNat x6) Hl) := sl_len (by simp)
    rw [hsl]; rw [hsl] at H; clear hsl
    revert h; refine br fun x24 hx25 h => ?_
    obtain ⟨b27, o28, hi26, -⟩ := (H.own 0 rfl).ix hx25
    refine st (v := (pt b27 o28)) (rv_ix Tryz.underlying27 ti3 rfl rfl hi26) ?_
    refine st_exS (ex_store_own (e' := x12) (vs := [(I x12)]) (k := 0) H (i := 0) rfl ti3 hx25 hi26 rfl rfl rfl rfl rfl (Nat.le_of_ble_eq_true rfl) (by simp [plain]) (by rintro _ rfl; exact rfl)) wn ?_
    rintro σ29 ⟨H, -⟩
    have hsl : (Sl Hk (s2.1.set s2.2.1.toNat x6) Hl) = (Sl Hk ((s2.1.set s2.2.1.toNat x6).set s2.2.2.toNat x12) Hl) := sl_len List.length_set.symm
    rw [hsl]; rw [hsl] at H; clear hsl
    refine w_end (q_then (c_seq (rg (sm (I s2.2.1) rfl (st (v := (I (w64 (s2.2.1 + 1)))) (rv_add (a := s2.2.1) (b := 1) rfl rfl) (sa (I (w64 (s2.2.1 + 1))) rfl (w_end (q_then (rg (sm (I s2.2.2) rfl (st (v := (I (w64 (s2.2.2 - 1)))) (rv_sub (a := s2.2.2) (b := 1) rfl rfl) ?_)))))))))))
    refine sa (I (w64 (s2.2.2 - 1))) rfl (w_end (q_blk (q_then ?_)))
    obtain rfl := sj h
    exact ⟨_, rfl, _, σ29, fr_join ⟨rfl, rfl, rfl, trivial⟩, rfl, H.sel' [0] rfl rfl, (List.length_set.trans (List.length_set.trans hn4))⟩
  ·replace h := bif_f hb5 h
   refine c_exit (q_then_x (q_then_x (q_blk_hit ?_)))
   obtain rfl := sj h
   obtain rfl := hres _ rfl
   exact ⟨rfl, _, σ3, fr_join ⟨rfl, trivial⟩, rfl, H.sel' [0] rfl rfl, hn4⟩
 ·clear hj
  have h := h'
  clear h' H
  rintro e a w ⟨rfl, ρ, σ30, rfl, rfl, H, hn31⟩
  obtain rfl := sj h
  exact fin_end (v := (.tuple #[])) (results_ok Tryz.results181 res_nil rfl) ⟨rfl, rfl, hn31⟩ (H.sel' [0] rfl rfl)

end Go.Vs
