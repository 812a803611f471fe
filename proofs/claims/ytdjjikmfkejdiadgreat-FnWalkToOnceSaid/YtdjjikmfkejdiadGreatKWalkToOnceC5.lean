/- The functions compute what their models say. -/
import Derived.Test.YtdjjikmfkejdiadGreatKWalkToOnceC4
set_option linter.unusedVariables false
set_option linter.unusedSimpArgs false
set_option maxRecDepth 20000
namespace Go.Vs
open Go Go.Proofs
attribute [local irreducible] Code.wp Code.wpIn wpList wpListIn wpQuiet Calls CallsIn

theorem c_spec_WalkTo {As : List (Int × (List Int) × Int)} {Bp : Int} {Bq : Int} {Gw : Int} {Gx : List Int} {Au : Option Addr} {Av : Nat} {Gy : Option Addr} {Gz : Nat} {r : (List Int) × Bool} (h : M.spec_WalkTo As Bp Bq Gw Gx = some r) :
    Cal2 Tryz.prog 6 [(Sl Au As Av), (I Bp), (I Bq), (I Gw), (Sl Gy Gx Gz)] [Ch.ro 0 (Sl Au As Av) As, Ch.ro 0 (Sl Gy Gx Gz) Gx] (fun n0 v L => ∃ (az1 : Option Addr), ∃ (cz2 : Nat), v = (.tuple #[(Sl az1 r.1 cz2), (B r.2)]) ∧ L = [Ch.own n0 n0 (Sl az1 r.1 cz2) r.1]) := by
 refine cal2 (n := 91) Tryz.func6 rfl rfl rfl rfl ?_
 intro S0 σ0 n0 hn0 H
 unfold M.spec_WalkTo at h
 refine c_seq (rg (sa (.slice none 0 0) rfl (sa (B false) rfl (w_end (q_then (c_seq (c_seq ?_)))))))
 obtain ⟨o1, hj, h'⟩ := bind_some h
 clear h
 refine c_cut (fun e a w => e = .normal ∧ ∃ (ρ : Nat → Value) (σ : St), a = fr 91 (updL ρ [(0, (Sl Au As Av)), (1, (I Bp)), (2, (I Bq)), (3, (I Gw)), (4, (Sl Gy Gx Gz)), (34, (B o1))]) ∧ w = σ.w ∧ Hp S0 σ0 σ [Ch.ro 0 (Sl Au As Av) As, Ch.ro 0 (Sl Gy Gx Gz) Gx]) ?_ ?_
 ·clear h'
  rename _ = some o1 => h
  refine rg (sm (Sl Au As Av) rfl (sm (I Bp) rfl (sm (Sl Gy Gx Gz) rfl ?_)))
  revert h; refine br fun r2 hx3 h => ?_
  have hc4 := c_spec_validQuery (Au := Au) (Av := Av) (Cp := Gy) (Cq := Gz) hx3
  refine st_call (cx_call hc4 (ent_f hc4.fn rfl) hn0 (H.sel' [0, 1, 0, 1] rfl rfl : Hp S0 σ0 _ ([_, _] ++ _))) wn ?_
  rintro _ σ5 ⟨_, ⟨rfl, rfl⟩, H, -⟩
  replace H : Hp _ _ _ [_, _] := H
  refine st (v := (B (!r2))) (rv_not rfl) (sm (B (!r2)) rfl ?_)
  rcases Bool.eq_false_or_eq_true (!r2) with hb6 | hb6
  ·replace h := bif_t hb6 h
   refine st_skip (congrArg some hb6) (st_skip (congrArg some hb6) (st_skip (congrArg some hb6) (st (v := (B true)) (rv_pick_t (congrArg B hb6) rfl) (sm (B true) rfl (st_skip rfl (st_skip rfl (st_skip rfl (st_skip rfl (st (v := (B true)) (rv_pick_t rfl rfl) (w_end ?_))))))))))
   obtain rfl := sj h
   exact ⟨rfl, _, σ5, fr_join ⟨rfl, rfl, rfl, rfl, rfl, rfl, trivial⟩, rfl, H.sel' [0, 1] rfl rfl⟩
  ·replace h := bif_f hb6 h
   refine st_g (v := (I Bq)) (congrArg some hb6) (rv_move rfl) ?_
   revert h; refine br fun r7 hx8 h => ?_
   have hc9 := c_spec_inRange hx8
   refine st_call (cx_call hc9 (ent_f hc9.fn rfl) hn0 (H.sel' [0, 1] rfl rfl : Hp S0 σ0 _ ([] ++ _))) (wanted_yes rfl (by exact (congrArg some hb6))) ?_
   rintro _ σ10 ⟨_, ⟨rfl, rfl⟩, H, -⟩
   replace H : Hp _ _ _ [_, _] := H
   refine st_g (v := (B (!r7))) (congrArg some hb6) (rv_not rfl) (st (v := (B (!r7))) (rv_pick_f (congrArg B hb6) rfl) (sm (B (!r7)) rfl ?_))
   rcases Bool.eq_false_or_eq_true (!r7) with hb11 | hb11
   ·replace h := bif_t hb11 h
    refine st_skip (congrArg some hb11) (st_skip (congrArg some hb11) (st_skip (congrArg some hb11) (st_skip (congrArg some hb11) (st (v := (B true)) (rv_pick_t (congrArg B hb11) rfl) (w_end ?_)))))
    obtain rfl := sj h
    exact ⟨rfl, _, σ10, fr_join ⟨rfl, rfl, rfl, rfl, rfl, rfl, trivial⟩, rfl, H.sel' [0, 1] rfl rfl⟩
   ·replace h := bif_f hb11 h
    refine st_g (v := (Sl Au As Av)) (congrArg some hb11) (rv_move rfl) (st_g (v := (I Gw)) (congrArg some hb11) (rv_move rfl) ?_)
    revert h; refine br fun r12 hx13 h => ?_
    have hc14 := c_spec_keyAt (Au := Au) (Av := Av) hx13
    refine st_call (cx_call hc14 (ent_f hc14.fn rfl) hn0 (H.sel' [0, 0, 1] rfl rfl : Hp S0 σ0 _ ([_] ++ _))) (wanted_yes rfl (by exact (congrArg some hb11))) ?_
    rintro _ σ15 ⟨_, ⟨rfl, rfl⟩, H, -⟩
    replace H : Hp _ _ _ [_, _] := H
    refine st_g (v := (B (decide (r12 < 0)))) (congrArg some hb11) (rv_lss (a := r12) (b := 0) rfl rfl) (st (v := (B (decide (r12 < 0)))) (rv_pick_f (congrArg B hb11) rfl) (w_end ?_))
    obtain rfl := sj h
    exact ⟨rfl, _, σ15, fr_join ⟨rfl, rfl, rfl, rfl, rfl, rfl, trivial⟩, rfl, H.sel' [0, 1] rfl rfl⟩
 ·clear hj
  have h := h'
  clear h' H
  rintro e a w ⟨rfl, ρ, σ16, rfl, rfl, H⟩
  refine q_then ?_
  refine cd_cond o1 rfl (fun hb17 => ?_) (fun hb17 => ?_)
  ·replace h := bif_t hb17 h
   refine c_seq (rg (sa (.slice none 0 0) rfl (sa (B false) rfl (w_end (q_then (c_ret (q_then_r ?_)))))))
   replace H := H.nilOwn Int n0 n0
   obtain rfl := sj h
   exact fin_ret (v := (.tuple #[(.slice none 0 0), (B false)])) (results_ok Tryz.results6 (res_tmp (v := (.slice none 0 0)) rfl (res_tmp (v := (B false)) rfl res_nil)) rfl) ⟨none, 0, rfl, rfl⟩ (H.sel' [0] rfl rfl)
  ·replace h := bif_f hb17 h
   refine c_skip (q_then (c_seq (rg (sm (Sl Au As Av) rfl (sm (I Bp) rfl (sm (I Bq) rfl ?_))))))
   revert h; refine br fun r18 hx19 h => ?_
   have hc20 := c_spec_links (Au := Au) (Av := Av) hx19
   refine st_call (cx_call hc20 (ent_f hc20.fn rfl) hn0 (H.sel' [0, 0, 1] rfl rfl : Hp S0 σ0 _ ([_] ++ _))) wn ?_
   rintro _ σ23 ⟨_, ⟨a21, c22, rfl, rfl⟩, H, -⟩
   replace H : Hp _ _ _ [_, _, _] := H
   refine sa (Sl a21 r18 c22) rfl (w_end (q_then (c_seq (rg (sm (Sl Au As Av) rfl (sm (Sl Au As Av) rfl (sm (I Gw) rfl ?_)))))))
   revert h; refine br fun r24 hx25 h => ?_
   have hc26 := c_spec_keyAt (Au := Au) (Av := Av) hx25
   refine st_call (cx_call hc26 (ent_f hc26.fn rfl) hn0 (H.sel' [1, 0, 1, 2] rfl rfl : Hp S0 σ0 _ ([_] ++ _))) wn ?_
   rintro _ σ27 ⟨_, ⟨rfl, rfl⟩, H, -⟩
   replace H : Hp _ _ _ [_, _, _] := H
   revert h; refine br fun x28 hx29 h => ?_
   obtain ⟨b31, o32, hi30, -⟩ := (H.ro 1 rfl).ix hx29
   refine st (v := (pt b31 o32)) (rv_ix Tryz.underlying23 ti49 rfl rfl hi30) ?_
   obtain ⟨_, ⟨_, _, rfl, rfl, ⟨_, _, rfl, ⟨_, rfl, hR37⟩, rfl⟩⟩, hl33, hc34⟩ := ((H.ro 1 rfl).at hx29 hi30).cells
   obtain ⟨a35, c36, rfl⟩ := hR37.isSl
   replace H := H.add (d := Ch.ro 0 (Sl a35 x28.2.1 c36) x28.2.1) hR37 (fun _ h => h)
   clear hR37
   refine st (v := (.agg #[(I x28.1), (Sl a35 x28.2.1 c36), (I x28.2.2)])) (rv_load Tryz.underlying49 rfl ti49 rfl hl33 hc34) (sm (I Bp) rfl (sm (Sl Gy Gx Gz) rfl ?_))
   revert h; refine br fun r38 hx39 h => ?_
   have hc40 := c_spec_hit (Be := a35) (Bf := c36) (Cp := Gy) (Cq := Gz) hx39
   refine st_call (cx_call hc40 (ent_f hc40.fn rfl) hn0 (H.sel' [0, 3, 0, 1, 2, 3] rfl rfl : Hp S0 σ0 _ ([_, _] ++ _))) wn ?_
   rintro _ σ41 ⟨_, ⟨rfl, rfl⟩, H, -⟩
   replace H : Hp _ _ _ [_, _, _, _] := H
   refine st_ex (ex_alloc (cs := [(I 0), (I 0)]) H hn0 ti46 rfl) wn ?_
   rintro _ σ43 ⟨b42, rfl, H, -⟩
   refine st_exS (ex_store_box (k := 0) (cs := [(I 0), (I 0)]) (vs := [(I r38.1), (I r38.2)]) (cs' := [(I r38.1), (I r38.2)]) H (i := 0) rfl ti46 rfl rfl rfl rfl rfl (Nat.le_of_ble_eq_true rfl) (by simp [plain]) rfl) wn ?_
   rintro σ44 ⟨H, -⟩
   refine w_end (q_then (c_seq (rg (st (v := (pt b42 0)) (rv_fieldAddr (off := 0) (ft := 3) Tryz.underlying46 rfl ti3 rfl rfl) ?_))))
   have hc45 := H.cell (u := (I r38.1)) (o' := 0) 0 0 rfl rfl rfl
   refine st (v := (I r38.1)) (rv_load1 Tryz.underlying3 rfl rfl hc45) ?_
   refine st_ex (ex_buildSlice (el := n0) (xs := ([r38.1] : List Int)) (ps := [(0, (I r38.1))]) (cs := [(I r38.1)]) H hn0 Tryz.underlying24 ti3 rfl rfl (by kernel_rfl) (.cons (c := [(I r38.1)]) rfl (.nil)) rfl) wn ?_
   rintro _ σ47 ⟨b46, rfl, H, -⟩
   refine sa (Sl (some ⟨b46, 0, none⟩) ([r38.1] : List Int) 1) rfl (w_end (q_then ?_))
   obtain ⟨o48, hj, h'⟩ := bind_some h
   clear h
   refine c_cut (fun e a w => e = .ret ∧ ∃ (ρ : Nat → Value) (σ : St) (aj1 : Option Addr) (cj2 : Nat), a = fr 91 (updL ρ [(10, (Sl aj1 o48.1 cj2)), (11, (B o48.2))]) ∧ w = σ.w ∧ Hp S0 σ0 σ [Ch.own n0 n0 (Sl aj1 o48.1 cj2) o48.1]) ?_ ?_
   ·clear h'
    rename _ = some o48 => h
    refine c_blk (wp_loopM _ h (fun s49 a w => ∃ (ρ : Nat → Value) (σ : St) (aj1 : Option Addr) (cj2 : Nat), a = fr 91 (updL ρ [(0, (Sl Au As Av)), (1, (I Bp)), (4, (Sl Gy Gx Gz)), (12, (Sl a21 r18 c22)), (13, (pt b42 0)), (14, (Sl aj1 s49.2 cj2))]) ∧ w = σ.w ∧ Hp S0 σ0 σ [Ch.bx n0 b42 0 [(I s49.1.1), (I s49.1.2)] [] [], Ch.ro 0 (Sl Au As Av) As, Ch.ro 0 (Sl Gy Gx Gz) Gx, Ch.own n0 n0 (Sl a21 r18 c22) r18, Ch.own n0 n0 (Sl aj1 s49.2 cj2) s49.2]) ⟨_, σ47, (some ⟨b46, 0, none⟩), 1, fr_join ⟨rfl, rfl, rfl, rfl, rfl, rfl, trivial⟩, rfl, H.sel' [1, 4, 5, 3, 0] rfl rfl⟩ ?_)
    clear h H
    rintro s49 a w o ⟨ρ, σ50, a51, c52, rfl, rfl, H⟩ h hres
    refine c_blk (c_seq (rg ?_))
    have hc53 := H.cells 0 rfl
    refine st (v := (.agg #[(I s49.1.1), (I s49.1.2)])) (rv_load (cs := [(I s49.1.1), (I s49.1.2)]) Tryz.underlying46 rfl ti46 rfl rfl hc53) (st_ex (ex_alloc (cs := [(I 0), (I 0)]) H hn0 ti46 rfl) wn ?_)
    rintro _ σ55 ⟨b54, rfl, H, -⟩
    refine st_exS (ex_store_box (k := 0) (cs := [(I 0), (I 0)]) (vs := [(I s49.1.1), (I s49.1.2)]) (cs' := [(I s49.1.1), (I s49.1.2)]) H (i := 0) rfl ti46 rfl rfl rfl rfl rfl (Nat.le_of_ble_eq_true rfl) (by simp [plain]) rfl) wn ?_
    rintro σ56 ⟨H, -⟩
    refine w_end (q_then (c_seq (rg (sm (Sl a21 r18 c22) rfl (sm (Sl Au As Av) rfl (st (v := (pt b42 0)) (rv_fieldAddr (off := 0) (ft := 3) Tryz.underlying46 rfl ti3 rfl rfl) ?_))))))
    have hc57 := H.cell (u := (I s49.1.1)) (o' := 0) 1 0 rfl rfl rfl
    refine st (v := (I s49.1.1)) (rv_load1 Tryz.underlying3 rfl rfl hc57) ?_
    revert h; refine br fun r58 hx59 h => ?_
    have hc60 := c_spec_keyAt (Au := Au) (Av := Av) hx59
    refine st_call (cx_call hc60 (ent_f hc60.fn rfl) hn0 (H.sel' [2, 0, 1, 2, 3, 4, 5] rfl rfl : Hp S0 σ0 _ ([_] ++ _))) wn ?_
    rintro _ σ61 ⟨_, ⟨rfl, rfl⟩, H, -⟩
    replace H : Hp _ _ _ [_, _, _, _, _, _] := H
    revert h; refine br fun x62 hx63 h => ?_
    obtain ⟨b65, o66, hi64, -⟩ := (H.own 4 rfl).ix hx63
    refine st (v := (pt b65 o66)) (rv_ix Tryz.underlying56 ti24 rfl rfl hi64) ?_
    obtain ⟨v70, hc71, hR69⟩ := ((H.own 4 rfl).at hx63 hi64).slice
    obtain ⟨a67, c68, rfl⟩ := hR69.isSl
    replace H := H.add (d := Ch.ro n0 (Sl a67 x62 c68) x62) hR69 (fun _ h => h)
    clear hR69
    refine st (v := (Sl a67 x62 c68)) (rv_load1 Tryz.underlying24 rfl rfl hc71) (sa (Sl a67 x62 c68) rfl (w_end (q_then (c_seq (c_seq (rg (sa (I 0) rfl (w_end (q_then ?_)))))))))
    obtain ⟨o72, hj, h'⟩ := bind_some h
    clear h
    refine c_cut (fun e a w => e = .normal ∧ ∃ (ρ : Nat → Value) (σ : St), a = fr 91 (updL ρ [(0, (Sl Au As Av)), (1, (I Bp)), (4, (Sl Gy Gx Gz)), (12, (Sl a21 r18 c22)), (13, (pt b42 0)), (14, (Sl a51 s49.2 c52)), (15, (pt b54 0))]) ∧ w = σ.w ∧ Hp S0 σ0 σ [Ch.bx n0 b54 0 [(I o72.1), (I o72.2)] [] [], Ch.ro 0 (Sl Au As Av) As, Ch.ro 0 (Sl Gy Gx Gz) Gx, Ch.own n0 n0 (Sl a21 r18 c22) r18, Ch.bx n0 b42 0 [(I s49.1.1), (I s49.1.2)] [] [], Ch.own n0 n0 (Sl a51 s49.2 c52) s49.2]) ?_ ?_
    ·clear h'
     rename _ = some o72 => h
     refine c_blk (wp_loopM _ h (fun s73 a w => ∃ (ρ : Nat → Value) (σ : St), a = fr 91 (updL ρ [(0, (Sl Au As Av)), (1, (I Bp)), (4, (Sl Gy Gx Gz)), (12, (Sl a21 r18 c22)), (13, (pt b42 0)), (14, (Sl a51 s49.2 c52)), (15, (pt b54 0)), (16, (Sl a67 x62 c68)), (17, (I s73.2))]) ∧ w = σ.w ∧ Hp S0 σ0 σ [Ch.bx n0 b54 0 [(I s73.1.1), (I s73.1.2)] [] [], Ch.ro 0 (Sl Au As Av) As, Ch.ro 0 (Sl Gy Gx Gz) Gx, Ch.own n0 n0 (Sl a21 r18 c22) r18, Ch.bx n0 b42 0 [(I s49.1.1), (I s49.1.2)] [] [], Ch.own n0 n0 (Sl a51 s49.2 c52) s49.2, Ch.ro n0 (Sl a67 x62 c68) x62]) ⟨_, σ61, fr_join ⟨rfl, rfl, rfl, rfl, rfl, rfl, rfl, rfl, rfl, trivial⟩, rfl, H.sel' [1, 3, 4, 5, 2, 6, 0] rfl rfl⟩ ?_)
     clear h H
     rintro s73 a w o ⟨ρ, σ74, rfl, rfl, H⟩ h hres
     refine c_seq (c_seq (rg (sm (I s73.2) rfl (sm (Sl a67 x62 c68) rfl (st (v := (I (x62.length : Int))) (rv_len Tryz.underlying24 rfl) (st (v := (B (decide (s73.2 < (x62.length : Int))))) (rv_lss (a := s73.2) (b := (x62.length : Int)) rfl rfl) (w_end (q_then ?_))))))))
     refine cd_cond (decide (s73.2 < (x62.length : Int))) rfl (fun hb75 => ?_) (fun hb75 => ?_)
     ·replace h := bif_t hb75 h
      refine c_skip (q_then (c_seq ?_))
      obtain ⟨o76, hj, h'⟩ := bind_some h
      clear h
      refine c_cut (fun e a w => e = .normal ∧ ∃ (ρ : Nat → Value) (σ : St), a = fr 91 (updL ρ [(0, (Sl Au As Av)), (1, (I Bp)), (4, (Sl Gy Gx Gz)), (12, (Sl a21 r18 c22)), (13, (pt b42 0)), (14, (Sl a51 s49.2 c52)), (15, (pt b54 0)), (16, (Sl a67 x62 c68)), (17, (I s73.2))]) ∧ w = σ.w ∧ Hp S0 σ0 σ [Ch.bx n0 b54 0 [(I o76.1), (I o76.2)] [] [], Ch.ro 0 (Sl Au As Av) As, Ch.ro 0 (Sl Gy Gx Gz) Gx, Ch.own n0 n0 (Sl a21 r18 c22) r18, Ch.bx n0 b42 0 [(I s49.1.1), (I s49.1.2)] [] [], Ch.own n0 n0 (Sl a51 s49.2 c52) s49.2, Ch.ro n0 (Sl a67 x62 c68) x62]) ?_ ?_
      ·clear h'
       rename _ = some o76 => h
       refine c_blk (c_seq (rg (sm (Sl Au As Av) rfl (sm (Sl Au As Av) rfl (sm (Sl a67 x62 c68) rfl (sm (I s73.2) rfl ?_))))))
       revert h; refine br fun x77 hx78 h => ?_
       obtain ⟨b80, o81, hi79, -⟩ := (H.ro 6 rfl).ix hx78
       refine st (v := (pt b80 o81)) (rv_ix Tryz.underlying24 ti3 rfl rfl hi79) ?_
       have hc82 := ((H.ro 6 rfl).at hx78 hi79).int
       refine st (v := (I x77)) (rv_load1 Tryz.underlying3 rfl rfl hc82) ?_
       revert h; refine br fun r83 hx84 h => ?_
       have hc85 := c_spec_keyAt (Au := Au) (Av := Av) hx84
       refine st_call (cx_call hc85 (ent_f hc85.fn rfl) hn0 (H.sel' [1, 0, 1, 2, 3, 4, 5, 6] rfl rfl : Hp S0 σ0 _ ([_] ++ _))) wn ?_
       rintro _ σ86 ⟨_, ⟨rfl, rfl⟩, H, -⟩
       replace H : Hp _ _ _ [_, _, _, _, _, _, _] := H
       revert h; refine br fun x87 hx88 h => ?_
       obtain ⟨b90, o91, hi89, -⟩ := (H.ro 1 rfl).ix hx88
       refine st (v := (pt b90 o91)) (rv_ix Tryz.underlying23 ti49 rfl rfl hi89) ?_
       obtain ⟨_, ⟨_, _, rfl, rfl, ⟨_, _, rfl, ⟨_, rfl, hR96⟩, rfl⟩⟩, hl92, hc93⟩ := ((H.ro 1 rfl).at hx88 hi89).cells
       obtain ⟨a94, c95, rfl⟩ := hR96.isSl
       replace H := H.add (d := Ch.ro 0 (Sl a94 x87.2.1 c95) x87.2.1) hR96 (fun _ h => h)
       clear hR96
       refine st (v := (.agg #[(I x87.1), (Sl a94 x87.2.1 c95), (I x87.2.2)])) (rv_load Tryz.underlying49 rfl ti49 rfl hl92 hc93) (sm (I Bp) rfl (sm (Sl Gy Gx Gz) rfl ?_))
       revert h; refine br fun r97 hx98 h => ?_
       have hc99 := c_spec_hit (Be := a94) (Bf := c95) (Cp := Gy) (Cq := Gz) hx98
       refine st_call (cx_call hc99 (ent_f hc99.fn rfl) hn0 (H.sel' [0, 3, 0, 1, 2, 3, 4, 5, 6, 7] rfl rfl : Hp S0 σ0 _ ([_, _] ++ _))) wn ?_
       rintro _ σ100 ⟨_, ⟨rfl, rfl⟩, H, -⟩
       replace H : Hp _ _ _ [_, _, _, _, _, _, _, _] := H
       replace H : Hp S0 σ0 σ100 [Ch.bx n0 b54 0 [(I s73.1.1), (I s73.1.2)] [] [], Ch.ro 0 (Sl Au As Av) As, Ch.ro 0 (Sl Gy Gx Gz) Gx, Ch.own n0 n0 (Sl a21 r18 c22) r18, Ch.bx n0 b42 0 [(I s49.1.1), (I s49.1.2)] [] [], Ch.own n0 n0 (Sl a51 s49.2 c52) s49.2, Ch.ro n0 (Sl a67 x62 c68) x62] := H.sel' [1, 2, 3, 4, 5, 6, 7] rfl rfl
       refine st_ex (ex_alloc (cs := [(I 0), (I 0)]) H hn0 ti46 rfl) wn ?_
       rintro _ σ102 ⟨b101, rfl, H, -⟩
       refine st_exS (ex_store_box (k := 0) (cs := [(I 0), (I 0)]) (vs := [(I r97.1), (I r97.2)]) (cs' := [(I r97.1), (I r97.2)]) H (i := 0) rfl ti46 rfl rfl rfl rfl rfl (Nat.le_of_ble_eq_true rfl) (by simp [plain]) rfl) wn ?_
       rintro σ103 ⟨H, -⟩
       refine w_end (q_then (c_seq (rg ?_)))
       have hc104 := H.cells 0 rfl
       refine st (v := (.agg #[(I r97.1), (I r97.2)])) (rv_load (cs := [(I r97.1), (I r97.2)]) Tryz.underlying46 rfl ti46 rfl rfl hc104) ?_
       have hc105 := H.cells 1 rfl
       refine st (v := (.agg #[(I s73.1.1), (I s73.1.2)])) (rv_load (cs := [(I s73.1.1), (I s73.1.2)]) Tryz.underlying46 rfl ti46 rfl rfl hc105) ?_
       revert h; refine br fun r106 hx107 h => ?_
       have hc108 := c_spec_nearer hx107
       refine st_call (cx_call hc108 (ent_f hc108.fn rfl) hn0 (H.sel' [0, 1, 2, 3, 4, 5, 6, 7] rfl rfl : Hp S0 σ0 _ ([] ++ _))) wn ?_
       rintro _ σ109 ⟨_, ⟨rfl, rfl⟩, H, -⟩
       replace H : Hp _ _ _ [_, _, _, _, _, _, _, _] := H
       refine w_end (q_then ?_)
       refine cd_cond r106 rfl (fun hb110 => ?_) (fun hb110 => ?_)
       ·replace h := bif_t hb110 h
        refine rg ?_
        have hc111 := H.cells 0 rfl
        refine st (v := (.agg #[(I r97.1), (I r97.2)])) (rv_load (cs := [(I r97.1), (I r97.2)]) Tryz.underlying46 rfl ti46 rfl rfl hc111) ?_
        refine st_exS (ex_store_box (k := 0) (cs := [(I s73.1.1), (I s73.1.2)]) (vs := [(I r97.1), (I r97.2)]) (cs' := [(I r97.1), (I r97.2)]) H (i := 1) rfl ti46 rfl rfl rfl rfl rfl (Nat.le_of_ble_eq_true rfl) (by simp [plain]) rfl) wn ?_
        rintro σ112 ⟨H, -⟩
        replace H : Hp S0 σ0 σ112 [Ch.bx n0 b54 0 [(I r97.1), (I r97.2)] [] [], Ch.ro 0 (Sl Au As Av) As, Ch.ro 0 (Sl Gy Gx Gz) Gx, Ch.own n0 n0 (Sl a21 r18 c22) r18, Ch.bx n0 b42 0 [(I s49.1.1), (I s49.1.2)] [] [], Ch.own n0 n0 (Sl a51 s49.2 c52) s49.2, Ch.ro n0 (Sl a67 x62 c68) x62] := H.sel' [0, 2, 3, 4, 5, 6, 7] rfl rfl
        refine w_end (q_blk ?_)
        obtain rfl := sj h
        exact ⟨rfl, _, σ112, fr_join ⟨rfl, rfl, rfl, rfl, rfl, rfl, rfl, rfl, rfl, trivial⟩, rfl, H.sel' [0, 1, 2, 3, 4, 5, 6] rfl rfl⟩
       ·replace h := bif_f hb110 h
        refine c_skip (q_blk ?_)
        obtain rfl := sj h
        exact ⟨rfl, _, σ109, fr_join ⟨rfl, rfl, rfl, rfl, rfl, rfl, rfl, rfl, rfl, trivial⟩, rfl, H.sel' [1, 2, 3, 4, 5, 6, 7] rfl rfl⟩
      ·clear hj
       have h := h'
       clear h' H
       rintro e a w ⟨rfl, ρ, σ113, rfl, rfl, H⟩
       refine q_then (rg (sm (I s73.2) rfl (st (v := (I (w64 (s73.2 + 1)))) (rv_add (a := s73.2) (b := 1) rfl rfl) (sa (I (w64 (s73.2 + 1))) rfl (w_end (q_then ?_))))))
       obtain rfl := sj h
       exact ⟨_, rfl, _, σ113, fr_join ⟨rfl, rfl, rfl, rfl, rfl, rfl, rfl, rfl, rfl, trivial⟩, rfl, H.sel' [0, 1, 2, 3, 4, 5, 6] rfl rfl⟩
     ·replace h := bif_f hb75 h
      refine c_exit (q_then_x (q_then_x (q_blk_hit ?_)))
      obtain rfl := sj h
      obtain rfl := hres _ rfl
      exact ⟨rfl, _, σ74, fr_join ⟨rfl, rfl, rfl, rfl, rfl, rfl, rfl, trivial⟩, rfl, H.sel' [0, 1, 2, 3, 4, 5] rfl rfl⟩
    ·clear hj
     have h := h'
     clear h' H
     rintro e a w ⟨rfl, ρ, σ114, rfl, rfl, H⟩
     refine q_then (c_seq (c_seq (rg ?_)))
     have hc115 := H.cells 0 rfl
     refine st (v := (.agg #[(I o72.1), (I o72.2)])) (rv_load (cs := [(I o72.1), (I o72.2)]) Tryz.underlying46 rfl ti46 rfl rfl hc115) ?_
     have hc116 := H.cells 4 rfl
     refine st (v := (.agg #[(I s49.1.1), (I s49.1.2)])) (rv_load (cs := [(I s49.1.1), (I s49.1.2)]) Tryz.underlying46 rfl ti46 rfl rfl hc116) ?_
     refine st (v := (B (([o72.1, o72.2] : List Int) == ([s49.1.1, s49.1.2] : List Int)))) (rv_eqlI (xs := ([o72.1, o72.2] : List Int)) (ys := ([s49.1.1, s49.1.2] : List Int)) (by kernel_rfl) (by kernel_rfl) (by kernel_rfl) rfl (by kernel_rfl) (by exact intfs46) rfl rfl) ?_
     refine w_end (q_then ?_)
     refine cd_cond (([o72.1, o72.2] : List Int) == ([s49.1.1, s49.1.2] : List Int)) rfl (fun hb117 => ?_) (fun hb117 => ?_)
     ·replace h := bif_t hb117 h
      refine c_seq (rg (sm (Sl a51 s49.2 c52) rfl (sa (Sl a51 s49.2 c52) rfl (sa (B true) rfl (w_end (q_then (c_ret (q_then_r (q_blk_r (q_then_r (q_blk_r ?_)))))))))))
      obtain rfl := sj h
      obtain rfl := hres _ rfl
      exact ⟨rfl, _, σ114, a51, c52, fr_join ⟨rfl, rfl, trivial⟩, rfl, H.sel' [5] rfl rfl⟩
     ·replace h := bif_f hb117 h
      refine c_skip (q_then (c_seq (rg ?_)))
      have hc118 := H.cells 0 rfl
      refine st (v := (.agg #[(I o72.1), (I o72.2)])) (rv_load (cs := [(I o72.1), (I o72.2)]) Tryz.underlying46 rfl ti46 rfl rfl hc118) ?_
      refine st_exS (ex_store_box (k := 0) (cs := [(I s49.1.1), (I s49.1.2)]) (vs := [(I o72.1), (I o72.2)]) (cs' := [(I o72.1), (I o72.2)]) H (i := 4) rfl ti46 rfl rfl rfl rfl rfl (Nat.le_of_ble_eq_true rfl) (by simp [plain]) rfl) wn ?_
      rintro σ119 ⟨H, -⟩
      refine w_end (q_then (rg (sm (Sl a51 s49.2 c52) rfl (st (v := (pt b42 0)) (rv_fieldAddr (off := 0) (ft := 3) Tryz.underlying46 rfl ti3 rfl rfl) ?_))))
      have hc120 := H.cell (u := (I o72.1)) (o' := 0) 0 0 rfl rfl rfl
      refine st (v := (I o72.1)) (rv_load1 Tryz.underlying3 rfl rfl hc120) ?_
      refine st_ex (ex_buildSlice (el := n0) (xs := ([o72.1] : List Int)) (ps := [(0, (I o72.1))]) (cs := [(I o72.1)]) H hn0 Tryz.underlying24 ti3 rfl rfl (by kernel_rfl) (.cons (c := [(I o72.1)]) rfl (.nil)) rfl) wn ?_
      rintro _ σ122 ⟨b121, rfl, H, -⟩
      revert h; refine br fun xs123 hx124 h => ?_
      refine st_ex (ex_append H (i := 6) rfl Tryz.underlying24 Tryz.underlying24 ti3 rfl rfl (by decide) (H.own 0 rfl).rd hx124 hn0 rfl rfl) wn ?_
      rintro _ σ127 ⟨a125, c126, rfl, H, -⟩
      refine sa (Sl a125 xs123 c126) rfl (w_end (q_blk (q_then ?_)))
      obtain rfl := sj h
      exact ⟨_, rfl, _, σ127, a125, c126, fr_join ⟨rfl, rfl, rfl, rfl, rfl, rfl, trivial⟩, rfl, H.sel' [2, 4, 5, 6, 0] rfl rfl⟩
   ·clear hj
    have h := h'
    clear h' H
    rintro e a w ⟨rfl, ρ, σ128, a129, c130, rfl, rfl, H⟩
    obtain rfl := sj h
    exact fin_ret (v := (.tuple #[(Sl a129 o48.1 c130), (B o48.2)])) (results_ok Tryz.results6 (res_tmp (v := (Sl a129 o48.1 c130)) rfl (res_tmp (v := (B o48.2)) rfl res_nil)) rfl) ⟨a129, c130, rfl, rfl⟩ (H.sel' [0] rfl rfl)

theorem c_laws_equalInts {Ca : List Int} {Cb : List Int} {Hd : Option Addr} {He : Nat} {Hf : Option Addr} {Hg : Nat} {r : Bool} (h : M.laws_equalInts Ca Cb = some r) :
    Cal2 Tryz.prog 7 [(Sl Hd Ca He), (Sl Hf Cb Hg)] [Ch.ro 0 (Sl Hd Ca He) Ca, Ch.ro 0 (Sl Hf Cb Hg) Cb] (fun n0 v L => v = (B r) ∧ L = []) := by
 refine cal2 (n := 26) Tryz.func7 rfl rfl rfl rfl ?_
 intro S0 σ0 n0 hn0 H
 unfold M.laws_equalInts at h
 refine c_seq (rg (sa (B false) rfl (w_end (q_then (c_seq (c_seq (rg (sm (Sl Hd Ca He) rfl (st (v := (I (Ca.length : Int))) (rv_len Tryz.underlying24 rfl) (sm (Sl Hf Cb Hg) rfl (st (v := (I (Cb.length : Int))) (rv_len Tryz.underlying24 rfl) ?_)))))))))))
 refine st (v := (B ((Ca.length : Int) != (Cb.length : Int)))) (rv_neq (a := (Ca.length : Int)) (b := (Cb.length : Int)) rfl rfl) (w_end (q_then ?_))
 refine cd_cond ((Ca.length : Int) != (Cb.length : Int)) rfl (fun hb1 => ?_) (fun hb1 => ?_)
 ·replace h := bif_t hb1 h
  refine c_seq (rg (sa (B false) rfl (w_end (q_then (c_ret (q_then_r ?_))))))
  obtain rfl := sj h
  exact fin_ret (v := (B false)) (results_ok Tryz.results7 (res_tmp (v := (B false)) rfl res_nil) rfl) ⟨rfl, rfl⟩ (H.sel' [] rfl rfl)
 ·replace h := bif_f hb1 h
  refine c_skip (q_then (c_seq (c_seq (rg (sa (I 0) rfl (w_end (q_then ?_)))))))
  obtain ⟨o2, hj, h'⟩ := bind_some h
  clear h
  refine c_cut (fun e a w => (∃ t, o2 = (.inl t) ∧ e = .normal ∧ ∃ (ρ : Nat → Value) (σ : St), a = fr 26 (updL ρ []) ∧ w = σ.w ∧ Hp S0 σ0 σ []) ∨ (∃ t, o2 = (.inr t) ∧ e = .ret ∧ ∃ (ρ : Nat → Value) (σ : St), a = fr 26 (updL ρ [(4, (B t))]) ∧ w = σ.w ∧ Hp S0 σ0 σ [])) ?_ ?_
  ·clear h'
   rename _ = some o2 => h
   refine c_blk (wp_loopM _ h (fun s3 a w => ∃ (ρ : Nat → Value) (σ : St), a = fr 26 (updL ρ [(0, (Sl Hd Ca He)), (1, (Sl Hf Cb Hg)), (5, (I s3))]) ∧ w = σ.w ∧ Hp S0 σ0 σ [Ch.ro 0 (Sl Hd Ca He) Ca, Ch.ro 0 (Sl Hf Cb Hg) Cb]) ⟨_, σ0, fr_join ⟨rfl, rfl, rfl, trivial⟩, rfl, H.sel' [0, 1] rfl rfl⟩ ?_)
   clear h H
   rintro s3 a w o ⟨ρ, σ4, rfl, rfl, H⟩ h hres
   refine c_seq (c_seq (rg (sm (I s3) rfl (sm (Sl Hd Ca He) rfl (st (v := (I (Ca.length : Int))) (rv_len Tryz.underlying24 rfl) (st (v := (B (decide (s3 < (Ca.length : Int))))) (rv_lss (a := s3) (b := (Ca.length : Int)) rfl rfl) (w_end (q_then ?_))))))))
   refine cd_cond (decide (s3 < (Ca.length : Int))) rfl (fun hb5 => ?_) (fun hb5 => ?_)
   ·replace h := bif_t hb5 h
    refine c_skip (q_then (c_seq (c_blk (c_seq ?_))))
    refine rgP (σ := σ4) 8 (by kernel_rfl) (by kernel_rfl) (by kernel_rfl) ?_
    refine sq (v := (Sl Hd Ca He)) (rv_move rfl) (sq (v := (I s3)) (rv_move rfl) ?_)
    revert h; refine br fun x6 hx7 h => ?_
    obtain ⟨b9, o10, hi8, -⟩ := (H.ro 0 rfl).ix hx7
    refine sq (v := (pt b9 o10)) (rv_ix Tryz.underlying24 ti3 rfl rfl hi8) ?_
    have hc11 := ((H.ro 0 rfl).at hx7 hi8).int
    refine sq (v := (I x6)) (rv_load1 Tryz.underlying3 rfl rfl hc11) (sq (v := (Sl Hf Cb Hg)) (rv_move rfl) (sq (v := (I s3)) (rv_move rfl) ?_))
    revert h; refine br fun x12 hx13 h => ?_
    obtain ⟨b15, o16, hi14, -⟩ := (H.ro 1 rfl).ix hx13
    refine sq (v := (pt b15 o16)) (rv_ix Tryz.underlying24 ti3 rfl rfl hi14) ?_
    have hc17 := ((H.ro 1 rfl).at hx13 hi14).int
    refine sq (v := (I x12)) (rv_load1 Tryz.underlying3 rfl rfl hc17) (sq_end ?_)
    intro σ18 hm19
    replace H := H.grow (hm19.mono fun _ h => h); clear hm19
    refine st (v := (B (x6 != x12))) (rv_neq (a := x6) (b := x12) rfl rfl) (w_end (q_then ?_))
    refine cd_cond (x6 != x12) rfl (fun hb20 => ?_) (fun hb20 => ?_)
    ·replace h := bif_t hb20 h
     refine c_seq (rg (sa (B false) rfl (w_end (q_then (c_ret (q_blk_r (q_then_r (q_then_r (q_blk_r ?_)))))))))
     obtain rfl := sj h
     obtain rfl := hres _ rfl
     exact .inr (⟨_, rfl, rfl, _, σ18, fr_join ⟨rfl, trivial⟩, rfl, H.sel' [] rfl rfl⟩)
    ·replace h := bif_f hb20 h
     refine c_skip (q_blk (q_then (rg (sm (I s3) rfl (st (v := (I (w64 (s3 + 1)))) (rv_add (a := s3) (b := 1) rfl rfl) (sa (I (w64 (s3 + 1))) rfl (w_end (q_then ?_))))))))
     obtain rfl := sj h
     exact ⟨_, rfl, _, σ18, fr_join ⟨rfl, rfl, rfl, trivial⟩, rfl, H.sel' [0, 1] rfl rfl⟩
   ·replace h := bif_f hb5 h
    refine c_exit (q_then_x (q_then_x (q_blk_hit ?_)))
    obtain rfl := sj h
    obtain rfl := hres _ rfl
    exact .inl ⟨_, rfl, rfl, _, σ4, fr_join trivial, rfl, H.sel' [] rfl rfl⟩
  ·clear hj
   have h := h'
   clear h' H
   rintro e a w (⟨t21, rfl, rfl, ρ, σ22, rfl, rfl, H⟩ | ⟨t23, rfl, rfl, ρ, σ24, rfl, rfl, H⟩)
   ·replace h := selim_l h
    refine q_then (c_seq (rg (sa (B true) rfl (w_end (q_then (c_ret ?_))))))
    obtain rfl := sj h
    exact fin_ret (v := (B true)) (results_ok Tryz.results7 (res_tmp (v := (B true)) rfl res_nil) rfl) ⟨rfl, rfl⟩ (H.sel' [] rfl rfl)
   ·replace h := selim_r h
    refine q_then_r ?_
    obtain rfl := sj h
    exact fin_ret (v := (B t23)) (results_ok Tryz.results7 (res_tmp (v := (B t23)) rfl res_nil) rfl) ⟨rfl, rfl⟩ (H.sel' [] rfl rfl)

theorem c_laws_isIn {As : List Int} {Af : Int} {Au : Option Addr} {Av : Nat} {r : Bool} (h : M.laws_isIn As Af = some r) :
    Cal2 Tryz.prog 8 [(Sl Au As Av), (I Af)] [Ch.ro 0 (Sl Au As Av) As] (fun n0 v L => v = (B r) ∧ L = []) := by
 refine cal2 (n := 18) Tryz.func8 rfl rfl rfl rfl ?_
 intro S0 σ0 n0 hn0 H
 unfold M.laws_isIn at h
 refine c_seq (rg (sa (B false) rfl (w_end (q_then (c_seq (c_seq (rg (sa (I 0) rfl (w_end (q_then ?_))))))))))
 obtain ⟨o1, hj, h'⟩ := bind_some h
 clear h
 refine c_cut (fun e a w => (∃ t, o1 = (.inl t) ∧ e = .normal ∧ ∃ (ρ : Nat → Value) (σ : St), a = fr 18 (updL ρ []) ∧ w = σ.w ∧ Hp S0 σ0 σ []) ∨ (∃ t, o1 = (.inr t) ∧ e = .ret ∧ ∃ (ρ : Nat → Value) (σ : St), a = fr 18 (updL ρ [(4, (B t))]) ∧ w = σ.w ∧ Hp S0 σ0 σ [])) ?_ ?_
 ·clear h'
  rename _ = some o1 => h
  refine c_blk (wp_loopM _ h (fun s2 a w => ∃ (ρ : Nat → Value) (σ : St), a = fr 18 (updL ρ [(0, (Sl Au As Av)), (1, (I Af)), (5, (I s2))]) ∧ w = σ.w ∧ Hp S0 σ0 σ [Ch.ro 0 (Sl Au As Av) As]) ⟨_, σ0, fr_join ⟨rfl, rfl, rfl, trivial⟩, rfl, H.sel' [0] rfl rfl⟩ ?_)
  clear h H
  rintro s2 a w o ⟨ρ, σ3, rfl, rfl, H⟩ h hres
  refine c_seq (c_seq (rg (sm (I s2) rfl (sm (Sl Au As Av) rfl (st (v := (I (As.length : Int))) (rv_len Tryz.underlying24 rfl) (st (v := (B (decide (s2 < (As.length : Int))))) (rv_lss (a := s2) (b := (As.length : Int)) rfl rfl) (w_end (q_then ?_))))))))
  refine cd_cond (decide (s2 < (As.length : Int))) rfl (fun hb4 => ?_) (fun hb4 => ?_)
  ·replace h := bif_t hb4 h
   refine c_skip (q_then (c_seq (c_blk (c_seq (rg (sm (Sl Au As Av) rfl (sm (I s2) rfl ?_)))))))
   revert h; refine br fun x5 hx6 h => ?_
   obtain ⟨b8, o9, hi7, -⟩ := (H.ro 0 rfl).ix hx6
   refine st (v := (pt b8 o9)) (rv_ix Tryz.underlying24 ti3 rfl rfl hi7) ?_
   have hc10 := ((H.ro 0 rfl).at hx6 hi7).int
   refine st (v := (I x5)) (rv_load1 Tryz.underlying3 rfl rfl hc10) (sm (I Af) rfl (st (v := (B (x5 == Af))) (rv_eql (a := x5) (b := Af) rfl rfl) (w_end (q_then ?_))))
   refine cd_cond (x5 == Af) rfl (fun hb11 => ?_) (fun hb11 => ?_)
   ·replace h := bif_t hb11 h
    refine c_seq (rg (sa (B true) rfl (w_end (q_then (c_ret (q_blk_r (q_then_r (q_then_r (q_blk_r ?_)))))))))
    obtain rfl := sj h
    obtain rfl := hres _ rfl
    exact .inr (⟨_, rfl, rfl, _, σ3, fr_join ⟨rfl, trivial⟩, rfl, H.sel' [] rfl rfl⟩)
   ·replace h := bif_f hb11 h
    refine c_skip (q_blk (q_then (rg (sm (I s2) rfl (st (v := (I (w64 (s2 + 1)))) (rv_add (a := s2) (b := 1) rfl rfl) (sa (I (w64 (s2 + 1))) rfl (w_end (q_then ?_))))))))
    obtain rfl := sj h
    exact ⟨_, rfl, _, σ3, fr_join ⟨rfl, rfl, rfl, trivial⟩, rfl, H.sel' [0] rfl rfl⟩
  ·replace h := bif_f hb4 h
   refine c_exit (q_then_x (q_then_x (q_blk_hit ?_)))
   obtain rfl := sj h
   obtain rfl := hres _ rfl
   exact .inl ⟨_, rfl, rfl, _, σ3, fr_join trivial, rfl, H.sel' [] rfl rfl⟩
 ·clear hj
  have h := h'
  clear h' H
  rintro e a w (⟨t12, rfl, rfl, ρ, σ13, rfl, rfl, H⟩ | ⟨t14, rfl, rfl, ρ, σ15, rfl, rfl, H⟩)
  ·replace h := selim_l h
   refine q_then (c_seq (rg (sa (B false) rfl (w_end (q_then (c_ret ?_))))))
   obtain rfl := sj h
   exact fin_ret (v := (B false)) (results_ok Tryz.results8 (res_tmp (v := (B false)) rfl res_nil) rfl) ⟨rfl, rfl⟩ (H.sel' [] rfl rfl)
  ·replace h := selim_r h
   refine q_then_r ?_
   obtain rfl := sj h
   exact fin_ret (v := (B t14)) (results_ok Tryz.results8 (res_tmp (v := (B t14)) rfl res_nil) rfl) ⟨rfl, rfl⟩ (H.sel' [] rfl rfl)

theorem c_laws_FnWalkToOnce {Aa : List UInt8} {Ac : Option Addr} {Ad : Nat} {r : Bool} (h : M.laws_FnWalkToOnce Aa = some r) :
    Cal2 Tryz.prog 3 [(Sl Ac Aa Ad)] [Ch.ro 0 (Sl Ac Aa Ad) Aa] (fun n0 v L => v = (B r) ∧ L = []) := by
 refine cal2 (n := 87) Tryz.func3 rfl rfl rfl rfl ?_
 intro S0 σ0 n0 hn0 H
 unfold M.laws_FnWalkToOnce at h
 refine c_seq (rg (sa (B false) rfl (w_end (q_then (c_seq (c_seq (rg (sm (Sl Ac Aa Ad) rfl (st (v := (I (Aa.length : Int))) (rv_len Tryz.underlying22 rfl) (st (v := (B (decide (1048576 < (Aa.length : Int))))) (rv_gtr (a := (Aa.length : Int)) (b := 1048576) rfl rfl) (w_end ?_)))))))))))
 refine q_then ?_
 refine cd_cond (decide (1048576 < (Aa.length : Int))) rfl (fun hb1 => ?_) (fun hb1 => ?_)
 ·replace h := bif_t hb1 h
  refine c_seq (rg (sa (B true) rfl (w_end (q_then (c_ret (q_then_r ?_))))))
  obtain rfl := sj h
  exact fin_ret (v := (B true)) (results_ok Tryz.results3 (res_tmp (v := (B true)) rfl res_nil) rfl) ⟨rfl, rfl⟩ (H.sel' [] rfl rfl)
 ·replace h := bif_f hb1 h
  refine c_skip (q_then (c_seq (rg (sm (Sl Ac Aa Ad) rfl ?_))))
  revert h; refine br fun r2 hx3 h => ?_
  have hc4 := c_spec_DrawWalkTo (Ac := Ac) (Ad := Ad) hx3
  refine st_call (cx_call hc4 (ent_f hc4.fn rfl) hn0 (H.sel' [0, 0] rfl rfl : Hp S0 σ0 _ ([_] ++ _))) wn ?_
  rintro _ σ9 ⟨_, ⟨a5, c6, a7, c8, rfl, rfl⟩, H, -⟩
  replace H : Hp _ _ _ [_, _, _] := H
  refine sm (.tuple #[(Sl a5 r2.1 c6), (I r2.2.1), (I r2.2.2.1), (I r2.2.2.2.1), (Sl a7 r2.2.2.2.2 c8)]) rfl (st (v := (Sl a5 r2.1 c6)) (rv_extract rfl rfl) (st (v := (I r2.2.1)) (rv_extract rfl rfl) (st (v := (I r2.2.2.1)) (rv_extract rfl rfl) (st (v := (I r2.2.2.2.1)) (rv_extract rfl rfl) (st (v := (Sl a7 r2.2.2.2.2 c8)) (rv_extract rfl rfl) (sa (Sl a5 r2.1 c6) rfl (sa (I r2.2.1) rfl (sa (I r2.2.2.1) rfl (sa (I r2.2.2.2.1) rfl (sa (Sl a7 r2.2.2.2.2 c8) rfl (w_end ?_)))))))))))
  refine q_then (c_seq (rg (sm (Sl a5 r2.1 c6) rfl (sm (I r2.2.1) rfl (sm (I r2.2.2.1) rfl (sm (I r2.2.2.2.1) rfl (sm (Sl a7 r2.2.2.2.2 c8) rfl ?_)))))))
  replace H := H.roLow 0 0 rfl (Nat.zero_le _)
  revert h; refine br fun r10 hx11 h => ?_
  have hc12 := c_impl_WalkTo (Au := a5) (Av := c6) (Gy := a7) (Gz := c8) hx11
  have hle := Nat.le_trans hn0 H.size
  refine st_call (cx_lend (Loan.same (Loan.lend Loan.nil)) hc12 (ent_f hc12.fn rfl) (show Hp S0 σ0 _ ([Ch.own n0 n0 (Sl a7 r2.2.2.2.2 c8) r2.2.2.2.2] ++ ([Ch.ro 0 (Sl a5 r2.1 c6) r2.1] ++ [Ch.ro 0 (Sl a5 r2.1 c6) r2.1, Ch.ro n0 (Sl a5 r2.1 c6) r2.1, Ch.ro 0 (Sl Ac Aa Ad) Aa])) from (H.sel' [2, 0, 0, 1, 3] rfl rfl)) (by rintro _ _ _ ⟨_, _, rfl, rfl⟩; exact ⟨Ab.ownSc, trivial⟩)) wn ?_
  rintro _ σ15 ⟨_, ⟨a13, c14, rfl, rfl⟩, H, -, -⟩
  replace H : Hp _ _ _ [_, _, _, _, _] := H
  replace H := H.ownLow 0 n0 n0 rfl hle hle
  clear hle
  replace H : Hp _ _ _ [_, _, _, _, _] := H
  refine sm (.tuple #[(Sl a13 r10.1 c14), (B r10.2)]) rfl (st (v := (Sl a13 r10.1 c14)) (rv_extract rfl rfl) (st (v := (B r10.2)) (rv_extract rfl rfl) (sa (Sl a13 r10.1 c14) rfl (sa (B r10.2) rfl (w_end (q_then (c_seq (rg (sm (Sl a5 r2.1 c6) rfl (sm (I r2.2.1) rfl (sm (I r2.2.2.1) rfl ?_)))))))))))
  refine sm (I r2.2.2.2.1) rfl (sm (Sl a7 r2.2.2.2.2 c8) rfl ?_)
  obtain ⟨σ16, hw17, H, -⟩ := H.pub 1 rfl (Nat.le_refl _)
  rw [← hw17]; clear hw17
  replace H := H.roLow 3 0 rfl (Nat.zero_le _)
  replace H := H.roLow 1 0 rfl (Nat.zero_le _)
  revert h; refine br fun r18 hx19 h => ?_
  have hc20 := c_spec_WalkTo (Au := a5) (Av := c6) (Gy := a7) (Gz := c8) hx19
  refine st_call (cx_call hc20 (ent_f hc20.fn rfl) hn0 (H.sel' [1, 0, 0, 1, 2, 3, 4, 5, 6] rfl rfl : Hp S0 σ0 _ ([_, _] ++ _))) wn ?_
  rintro _ σ23 ⟨_, ⟨a21, c22, rfl, rfl⟩, H, -⟩
  replace H : Hp _ _ _ [_, _, _, _, _, _, _, _] := H
  replace H : Hp S0 σ0 σ23 [Ch.own n0 n0 (Sl a21 r18.1 c22) r18.1, Ch.own n0 n0 (Sl a13 r10.1 c14) r10.1, Ch.ro n0 (Sl a5 r2.1 c6) r2.1] := H.sel' [0, 4, 6] rfl rfl
  refine sm (.tuple #[(Sl a21 r18.1 c22), (B r18.2)]) rfl (st (v := (Sl a21 r18.1 c22)) (rv_extract rfl rfl) (st (v := (B r18.2)) (rv_extract rfl rfl) (sa (Sl a21 r18.1 c22) rfl (sa (B r18.2) rfl (w_end (q_then (c_seq (c_seq ?_))))))))
  obtain ⟨o24, hj, h'⟩ := bind_some h
  clear h
  refine c_cut (fun e a w => e = .normal ∧ ∃ (ρ : Nat → Value) (σ : St), a = fr 87 (updL ρ [(3, (Sl a5 r2.1 c6)), (8, (Sl a13 r10.1 c14)), (9, (B r10.2)), (10, (Sl a21 r18.1 c22)), (11, (B r18.2)), (54, (B o24))]) ∧ w = σ.w ∧ Hp S0 σ0 σ [Ch.ro n0 (Sl a5 r2.1 c6) r2.1, Ch.own n0 n0 (Sl a13 r10.1 c14) r10.1, Ch.own n0 n0 (Sl a21 r18.1 c22) r18.1]) ?_ ?_
  ·clear h'
   rename _ = some o24 => h
   refine rg (sm (Sl a13 r10.1 c14) rfl (sm (Sl a21 r18.1 c22) rfl ?_))
   revert h; refine br fun r25 hx26 h => ?_
   have hc27 := c_laws_equalInts (Hd := a13) (He := c14) (Hf := a21) (Hg := c22) hx26
   have hle := Nat.le_trans hn0 H.size
   refine st_call (cx_lend (Loan.lend (Loan.lend Loan.nil)) hc27 (ent_f hc27.fn rfl) (show Hp S0 σ0 _ ([Ch.own n0 n0 (Sl a13 r10.1 c14) r10.1, Ch.own n0 n0 (Sl a21 r18.1 c22) r18.1] ++ ([] ++ [Ch.ro n0 (Sl a5 r2.1 c6) r2.1])) from (H.sel' [1, 0, 2] rfl rfl)) (by rintro _ _ _ ⟨rfl, rfl⟩; exact trivial)) wn ?_
   rintro _ σ28 ⟨_, ⟨rfl, rfl⟩, H, -, -⟩
   replace H : Hp _ _ _ [_, _, _] := H
   clear hle
   replace H : Hp _ _ _ [_, _, _] := H
   refine st (v := (B (!r25))) (rv_not rfl) (sm (B (!r25)) rfl ?_)
   rcases Bool.eq_false_or_eq_true (!r25) with hb29 | hb29
   ·replace h := bif_t hb29 h
    refine st_skip (congrArg some hb29) (st_skip (congrArg some hb29) (st_skip (congrArg some hb29) (st (v := (B true)) (rv_pick_t (congrArg B hb29) rfl) (sm (B true) rfl (st_skip rfl (st_skip rfl (st (v := (B true)) (rv_pick_t rfl rfl) (w_end ?_))))))))
    obtain rfl := sj h
    exact ⟨rfl, _, σ28, fr_join ⟨rfl, rfl, rfl, rfl, rfl, rfl, trivial⟩, rfl, H.sel' [2, 0, 1] rfl rfl⟩
   ·replace h := bif_f hb29 h
    refine st_g (v := (B r10.2)) (congrArg some hb29) (rv_move rfl) (st_g (v := (B r18.2)) (congrArg some hb29) (rv_move rfl) (st_g (v := (B (r10.2 != r18.2))) (congrArg some hb29) (rv_bneq Tryz.underlying4 rfl rfl) (st (v := (B (r10.2 != r18.2))) (rv_pick_f (congrArg B hb29) rfl) (sm (B (r10.2 != r18.2)) rfl ?_))))
    rcases Bool.eq_false_or_eq_true (r10.2 != r18.2) with hb30 | hb30
    ·replace h := bif_t hb30 h
     refine st_skip (congrArg some hb30) (st_skip (congrArg some hb30) (st (v := (B true)) (rv_pick_t (congrArg B hb30) rfl) (w_end ?_)))
     obtain rfl := sj h
     exact ⟨rfl, _, σ28, fr_join ⟨rfl, rfl, rfl, rfl, rfl, rfl, trivial⟩, rfl, H.sel' [2, 0, 1] rfl rfl⟩
    ·replace h := bif_f hb30 h
     refine st_g (v := (B r10.2)) (congrArg some hb30) (rv_move rfl) (st_g (v := (B (!r10.2))) (congrArg some hb30) (rv_not rfl) (st (v := (B (!r10.2))) (rv_pick_f (congrArg B hb30) rfl) (w_end ?_)))
     obtain rfl := sj h
     exact ⟨rfl, _, σ28, fr_join ⟨rfl, rfl, rfl, rfl, rfl, rfl, trivial⟩, rfl, H.sel' [2, 0, 1] rfl rfl⟩
  ·clear hj
   have h := h'
   clear h' H
   rintro e a w ⟨rfl, ρ, σ31, rfl, rfl, H⟩
   refine q_then ?_
   refine cd_cond o24 rfl (fun hb32 => ?_) (fun hb32 => ?_)
   ·replace h := bif_t hb32 h
    refine c_seq (rg (sm (Sl a13 r10.1 c14) rfl (sm (Sl a21 r18.1 c22) rfl ?_)))
    obtain ⟨σ33, hw34, H, -⟩ := H.pub 1 rfl (Nat.le_refl _)
    rw [← hw34]; clear hw34
    obtain ⟨σ35, hw36, H, -⟩ := H.pub 2 rfl (Nat.le_refl _)
    rw [← hw36]; clear hw36
    replace H := H.roLow 1 0 rfl (Nat.zero_le _)
    replace H := H.roLow 1 0 rfl (Nat.zero_le _)
    revert h; refine br fun r37 hx38 h => ?_
    have hc39 := c_laws_equalInts (Hd := a13) (He := c14) (Hf := a21) (Hg := c22) hx38
    refine st_call (cx_call hc39 (ent_f hc39.fn rfl) hn0 (H.sel' [1, 0, 0, 1, 2, 3, 4] rfl rfl : Hp S0 σ0 _ ([_, _] ++ _))) wn ?_
    rintro _ σ40 ⟨_, ⟨rfl, rfl⟩, H, -⟩
    replace H : Hp _ _ _ [_, _, _, _, _] := H
    refine sm (B r37) rfl ?_
    rcases Bool.eq_false_or_eq_true r37 with hb41 | hb41
    ·replace h := bif_t hb41 h
     refine st_g (v := (B r10.2)) (congrArg some hb41) (rv_move rfl) (st_g (v := (B r18.2)) (congrArg some hb41) (rv_move rfl) (st_g (v := (B (r10.2 == r18.2))) (congrArg some hb41) (rv_beql Tryz.underlying4 rfl rfl) (st (v := (B (r10.2 == r18.2))) (rv_pick_t (congrArg B hb41) rfl) (sa (B (r10.2 == r18.2)) rfl (w_end (q_then (c_ret (q_then_r ?_))))))))
     obtain rfl := sj h
     exact fin_ret (v := (B (r10.2 == r18.2))) (results_ok Tryz.results3 (res_tmp (v := (B (r10.2 == r18.2))) rfl res_nil) rfl) ⟨rfl, rfl⟩ (H.sel' [] rfl rfl)
    ·replace h := bif_f hb41 h
     refine st_skip (congrArg some hb41) (st_skip (congrArg some hb41) (st_skip (congrArg some hb41) (st (v := (B false)) (rv_pick_f (congrArg B hb41) rfl) (sa (B false) rfl (w_end (q_then (c_ret (q_then_r ?_))))))))
     obtain rfl := sj h
     exact fin_ret (v := (B false)) (results_ok Tryz.results3 (res_tmp (v := (B false)) rfl res_nil) rfl) ⟨rfl, rfl⟩ (H.sel' [] rfl rfl)
   ·replace h := bif_f hb32 h
    refine c_skip (q_then (c_seq (c_seq (rg (sa (I 0) rfl (w_end (q_then ?_)))))))
    obtain ⟨o42, hj, h'⟩ := bind_some h
    clear h
    refine c_cut (fun e a w => (∃ t, o42 = (.inl t) ∧ e = .normal ∧ ∃ (ρ : Nat → Value) (σ : St), a = fr 87 (updL ρ [(3, (Sl a5 r2.1 c6)), (8, (Sl a13 r10.1 c14))]) ∧ w = σ.w ∧ Hp S0 σ0 σ [Ch.ro n0 (Sl a5 r2.1 c6) r2.1, Ch.ro n0 (Sl a13 r10.1 c14) r10.1]) ∨ (∃ t, o42 = (.inr t) ∧ e = .ret ∧ ∃ (ρ : Nat → Value) (σ : St), a = fr 87 (updL ρ [(2, (B t))]) ∧ w = σ.w ∧ Hp S0 σ0 σ [])) ?_ ?_
    ·clear h'
     rename _ = some o42 => h
     refine c_blk ?_
     obtain ⟨σ44, hw45, H, -⟩ := H.pub 1 rfl (Nat.le_refl _)
     rw [← hw45]; clear hw45
     refine wp_loopM _ h (fun s43 a w => ∃ (ρ : Nat → Value) (σ : St), a = fr 87 (updL ρ [(3, (Sl a5 r2.1 c6)), (8, (Sl a13 r10.1 c14)), (12, (I s43))]) ∧ w = σ.w ∧ Hp S0 σ0 σ [Ch.ro n0 (Sl a5 r2.1 c6) r2.1, Ch.ro n0 (Sl a13 r10.1 c14) r10.1]) ⟨_, σ44, fr_join ⟨rfl, rfl, rfl, trivial⟩, rfl, H.sel' [1, 0] rfl rfl⟩ ?_
     clear h H
     rintro s43 a w o ⟨ρ, σ46, rfl, rfl, H⟩ h hres
     refine c_seq (c_seq (rg (sm (I s43) rfl (sm (Sl a13 r10.1 c14) rfl (st (v := (I (r10.1.length : Int))) (rv_len Tryz.underlying24 rfl) (st (v := (B (decide (s43 < (r10.1.length : Int))))) (rv_lss (a := s43) (b := (r10.1.length : Int)) rfl rfl) (w_end (q_then ?_))))))))
     refine cd_cond (decide (s43 < (r10.1.length : Int))) rfl (fun hb47 => ?_) (fun hb47 => ?_)
     ·replace h := bif_t hb47 h
      refine c_skip (q_then (c_seq (c_blk (c_seq ?_))))
      refine rgP (σ := σ46) 7 (by kernel_rfl) (by kernel_rfl) (by kernel_rfl) ?_
      refine sq (v := (Sl a13 r10.1 c14)) (rv_move rfl) (sq (v := (I s43)) (rv_move rfl) ?_)
      revert h; refine br fun xs48 hx49 h => ?_
      obtain ⟨a50, c51, hs52, hR53⟩ := (H.ro 1 rfl).slice hx49
      replace H := H.add (d := Ch.ro n0 (Sl a50 xs48 c51) xs48) hR53 (fun _ h => h)
      clear hR53
      refine sq (v := (Sl a50 xs48 c51)) (rv_slice_h Tryz.underlying24 ti3 hs52 rfl rfl) (sq (v := (Sl a13 r10.1 c14)) (rv_move rfl) (sq (v := (I s43)) (rv_move rfl) ?_))
      revert h; refine br fun x54 hx55 h => ?_
      obtain ⟨b57, o58, hi56, -⟩ := (H.ro 2 rfl).ix hx55
      refine sq (v := (pt b57 o58)) (rv_ix Tryz.underlying24 ti3 rfl rfl hi56) ?_
      have hc59 := ((H.ro 2 rfl).at hx55 hi56).int
      refine sq (v := (I x54)) (rv_load1 Tryz.underlying3 rfl rfl hc59) (sq_end ?_)
      intro σ60 hm61
      replace H := H.grow (hm61.mono fun _ h => h); clear hm61
      replace H := H.roLow 0 0 rfl (Nat.zero_le _)
      revert h; refine br fun r62 hx63 h => ?_
      have hc64 := c_laws_isIn (Au := a50) (Av := c51) hx63
      refine st_call (cx_call hc64 (ent_f hc64.fn rfl) hn0 (H.sel' [0, 0, 1, 2, 3] rfl rfl : Hp S0 σ0 _ ([_] ++ _))) wn ?_
      rintro _ σ65 ⟨_, ⟨rfl, rfl⟩, H, -⟩
      replace H : Hp _ _ _ [_, _, _, _] := H
      refine w_end (q_then ?_)
      refine cd_cond r62 rfl (fun hb66 => ?_) (fun hb66 => ?_)
      ·replace h := bif_t hb66 h
       refine c_seq (rg (sa (B false) rfl (w_end (q_then (c_ret (q_blk_r (q_then_r (q_then_r (q_blk_r ?_)))))))))
       obtain rfl := sj h
       obtain rfl := hres _ rfl
       exact .inr (⟨_, rfl, rfl, _, σ65, fr_join ⟨rfl, trivial⟩, rfl, H.sel' [] rfl rfl⟩)
      ·replace h := bif_f hb66 h
       refine c_skip (q_blk (q_then (rg (sm (I s43) rfl (st (v := (I (w64 (s43 + 1)))) (rv_add (a := s43) (b := 1) rfl rfl) (sa (I (w64 (s43 + 1))) rfl (w_end (q_then ?_))))))))
       obtain rfl := sj h
       exact ⟨_, rfl, _, σ65, fr_join ⟨rfl, rfl, rfl, trivial⟩, rfl, H.sel' [2, 3] rfl rfl⟩
     ·replace h := bif_f hb47 h
      refine c_exit (q_then_x (q_then_x (q_blk_hit ?_)))
      obtain rfl := sj h
      obtain rfl := hres _ rfl
      exact .inl ⟨_, rfl, rfl, _, σ46, fr_join ⟨rfl, rfl, trivial⟩, rfl, H.sel' [0, 1] rfl rfl⟩
    ·clear hj
     have h := h'
     clear h' H
     rintro e a w (⟨t67, rfl, rfl, ρ, σ68, rfl, rfl, H⟩ | ⟨t70, rfl, rfl, ρ, σ71, rfl, rfl, H⟩)
     ·replace h := selim_l h
      refine q_then (c_seq (rg (sm (Sl a13 r10.1 c14) rfl (st (v := (I (r10.1.length : Int))) (rv_len Tryz.underlying24 rfl) (st (v := (B (decide (1 ≤ (r10.1.length : Int))))) (rv_geq (a := (r10.1.length : Int)) (b := 1) rfl rfl) (sm (B (decide (1 ≤ (r10.1.length : Int)))) rfl ?_))))))
      rcases Bool.eq_false_or_eq_true (decide (1 ≤ (r10.1.length : Int))) with hb69 | hb69
      ·replace h := bif_t hb69 h
       refine st_g (v := (Sl a13 r10.1 c14)) (congrArg some hb69) (rv_move rfl) (st_g (v := (I (r10.1.length : Int))) (congrArg some hb69) (rv_len Tryz.underlying24 rfl) (st_g (v := (Sl a5 r2.1 c6)) (congrArg some hb69) (rv_move rfl) (st_g (v := (I (r2.1.length : Int))) (congrArg some hb69) (rv_len Tryz.underlying23 rfl) (st_g (v := (B (decide ((r10.1.length : Int) ≤ (r2.1.length : Int))))) (congrArg some hb69) (rv_leq (a := (r10.1.length : Int)) (b := (r2.1.length : Int)) rfl rfl) (st (v := (B (decide ((r10.1.length : Int) ≤ (r2.1.length : Int))))) (rv_pick_t (congrArg B hb69) rfl) (sa (B (decide ((r10.1.length : Int) ≤ (r2.1.length : Int)))) rfl (w_end (q_then (c_ret ?_)))))))))
       obtain rfl := sj h
       exact fin_ret (v := (B (decide ((r10.1.length : Int) ≤ (r2.1.length : Int))))) (results_ok Tryz.results3 (res_tmp (v := (B (decide ((r10.1.length : Int) ≤ (r2.1.length : Int))))) rfl res_nil) rfl) ⟨rfl, rfl⟩ (H.sel' [] rfl rfl)
      ·replace h := bif_f hb69 h
       refine st_skip (congrArg some hb69) (st_skip (congrArg some hb69) (st_skip (congrArg some hb69) (st_skip (congrArg some hb69) (st_skip (congrArg some hb69) (st (v := (B false)) (rv_pick_f (congrArg B hb69) rfl) (sa (B false) rfl (w_end (q_then (c_ret ?_)))))))))
       obtain rfl := sj h
       exact fin_ret (v := (B false)) (results_ok Tryz.results3 (res_tmp (v := (B false)) rfl res_nil) rfl) ⟨rfl, rfl⟩ (H.sel' [] rfl rfl)
     ·replace h := selim_r h
      refine q_then_r ?_
      obtain rfl := sj h
      exact fin_ret (v := (B t70)) (results_ok Tryz.results3 (res_tmp (v := (B t70)) rfl res_nil) rfl) ⟨rfl, rfl⟩ (H.sel' [] rfl rfl)

end Go.Vs
