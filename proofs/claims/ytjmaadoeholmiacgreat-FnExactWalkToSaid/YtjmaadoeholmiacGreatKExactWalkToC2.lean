/- The functions compute what their models say. -/
import Derived.Test.YtjmaadoeholmiacGreatKExactWalkToC1
set_option linter.unusedVariables false
set_option linter.unusedSimpArgs false
set_option maxRecDepth 20000
namespace Go.Vs
open Go Go.Proofs
attribute [local irreducible] Code.wp Code.wpIn wpList wpListIn wpQuiet Calls CallsIn

theorem c_spec_WalkTo {Ak : List (Int × (List Int) × Int)} {Ax : Int} {Bm : Int} {Bn : Int} {Bo : List Int} {Am : Option Addr} {Ao : Nat} {Bp : Option Addr} {Bq : Nat} {r : (List Int) × Bool} (h : M.spec_WalkTo Ak Ax Bm Bn Bo = some r) :
    Cal2 Tryz.prog 5 [(Sl Am Ak Ao), (I Ax), (I Bm), (I Bn), (Sl Bp Bo Bq)] [Ch.ro 0 (Sl Am Ak Ao) Ak, Ch.ro 0 (Sl Bp Bo Bq) Bo] (fun n0 v L => ∃ (az1 : Option Addr), ∃ (cz2 : Nat), v = (.tuple #[(Sl az1 r.1 cz2), (B r.2)]) ∧ L = [Ch.own n0 n0 (Sl az1 r.1 cz2) r.1]) := by
 refine cal2 (n := 91) Tryz.func5 rfl rfl rfl rfl ?_
 intro S0 σ0 n0 hn0 H
 unfold M.spec_WalkTo at h
 refine c_seq (rg (sa (.slice none 0 0) rfl (sa (B false) rfl (w_end (q_then (c_seq (c_seq ?_)))))))
 obtain ⟨o1, hj, h'⟩ := bind_some h
 clear h
 refine c_cut (fun e a w => e = .normal ∧ ∃ (ρ : Nat → Value) (σ : St), a = fr 91 (updL ρ [(0, (Sl Am Ak Ao)), (1, (I Ax)), (2, (I Bm)), (3, (I Bn)), (4, (Sl Bp Bo Bq)), (34, (B o1))]) ∧ w = σ.w ∧ Hp S0 σ0 σ [Ch.ro 0 (Sl Am Ak Ao) Ak, Ch.ro 0 (Sl Bp Bo Bq) Bo]) ?_ ?_
 ·clear h'
  rename _ = some o1 => h
  refine rg (sm (Sl Am Ak Ao) rfl (sm (I Ax) rfl (sm (Sl Bp Bo Bq) rfl ?_)))
  revert h; refine br fun r2 hx3 h => ?_
  have hc4 := c_spec_validQuery (Am := Am) (Ao := Ao) (Az := Bp) (Ba := Bq) hx3
  refine st_call (cx_call hc4 (ent_f hc4.fn rfl) hn0 (H.sel' [0, 1, 0, 1] rfl rfl : Hp S0 σ0 _ ([_, _] ++ _))) wn ?_
  rintro _ σ5 ⟨_, ⟨rfl, rfl⟩, H, -⟩
  replace H : Hp _ _ _ [_, _] := H
  refine st (v := (B (!r2))) (rv_not rfl) (sm (B (!r2)) rfl ?_)
  rcases Bool.eq_false_or_eq_true (!r2) with hb6 | hb6
  ·replace h := bif_t hb6 h
   refine st_skip (congrArg some hb6) (st_skip (congrArg some hb6) (st_skip (congrArg some hb6) (st (v := (B true)) (rv_pick_t (congrArg B hb6) rfl) (sm (B true) rfl (st_skip rfl (st_skip rfl (st_skip rfl (st_skip rfl (st (v := (B true)) (rv_pick_t rfl rfl) (w_end ?_))))))))))
   obtain rfl := sj h
   exact ⟨rfl, _, σ5, fr_join ⟨rfl, rfl, rfl, rfl, rfl, rfl, trivial⟩, rfl, H.sel' [0, 1] rfl rfl⟩
  ·replace h := bif_f hb6 h
   refine st_g (v := (I Bm)) (congrArg some hb6) (rv_move rfl) ?_
   revert h; refine br fun r7 hx8 h => ?_
   have hc9 := c_spec_inRange hx8
   refine st_call (cx_call hc9 (ent_f hc9.fn rfl) hn0 (H.sel' [0, 1] rfl rfl : Hp S0 σ0 _ ([] ++ _))) (wanted_yes rfl (by exact (congrArg some hb6))) ?_
   rintro _ σ10 ⟨_, ⟨rfl, rfl⟩, H, -⟩
   replace H : Hp _ _ _ [_, _] := H
   refine st_g (v := (B (!r7))) (congrArg some hb6) (rv_not rfl) (st (v := (B (!r7))) (rv_pick_f (congrArg B hb6) rfl) (sm (B (!r7)) rfl ?_))
   rcases Bool.eq_false_or_eq_true (!r7) with hb11 | hb11
   ·replace h := bif_t hb11 h
    refine st_skip (congrArg some hb11) (st_skip (congrArg some hb11) (st_skip (congrArg some hb11) (st_skip (congrArg some hb11) (st (v := (B true)) (rv_pick_t (congrArg B hb11) rfl) (w_end ?_)))))
    obtain rfl := sj h
    exact ⟨rfl, _, σ10, fr_join ⟨rfl, rfl, rfl, rfl, rfl, rfl, trivial⟩, rfl, H.sel' [0, 1] rfl rfl⟩
   ·replace h := bif_f hb11 h
    refine st_g (v := (Sl Am Ak Ao)) (congrArg some hb11) (rv_move rfl) (st_g (v := (I Bn)) (congrArg some hb11) (rv_move rfl) ?_)
    revert h; refine br fun r12 hx13 h => ?_
    have hc14 := c_spec_keyAt (Am := Am) (Ao := Ao) hx13
    refine st_call (cx_call hc14 (ent_f hc14.fn rfl) hn0 (H.sel' [0, 0, 1] rfl rfl : Hp S0 σ0 _ ([_] ++ _))) (wanted_yes rfl (by exact (congrArg some hb11))) ?_
    rintro _ σ15 ⟨_, ⟨rfl, rfl⟩, H, -⟩
    replace H : Hp _ _ _ [_, _] := H
    refine st_g (v := (B (decide (r12 < 0)))) (congrArg some hb11) (rv_lss (a := r12) (b := 0) rfl rfl) (st (v := (B (decide (r12 < 0)))) (rv_pick_f (congrArg B hb11) rfl) (w_end ?_))
    obtain rfl := sj h
    exact ⟨rfl, _, σ15, fr_join ⟨rfl, rfl, rfl, rfl, rfl, rfl, trivial⟩, rfl, H.sel' [0, 1] rfl rfl⟩
 ·clear hj
  have h := h'
  clear h' H
  rintro e a w ⟨rfl, ρ, σ16, rfl, rfl, H⟩
  refine q_then ?_
  refine cd_cond o1 rfl (fun hb17 => ?_) (fun hb17 => ?_)
  ·replace h := bif_t hb17 h
   refine c_seq (rg (sa (.slice none 0 0) rfl (sa (B false) rfl (w_end (q_then (c_ret (q_then_r ?_)))))))
   replace H := H.nilOwn Int n0 n0
   obtain rfl := sj h
   exact fin_ret (v := (.tuple #[(.slice none 0 0), (B false)])) (results_ok Tryz.results5 (res_tmp (v := (.slice none 0 0)) rfl (res_tmp (v := (B false)) rfl res_nil)) rfl) ⟨none, 0, rfl, rfl⟩ (H.sel' [0] rfl rfl)
  ·replace h := bif_f hb17 h
   refine c_skip (q_then (c_seq (rg (sm (Sl Am Ak Ao) rfl (sm (I Ax) rfl (sm (I Bm) rfl ?_))))))
   revert h; refine br fun r18 hx19 h => ?_
   have hc20 := c_spec_links (Am := Am) (Ao := Ao) hx19
   refine st_call (cx_call hc20 (ent_f hc20.fn rfl) hn0 (H.sel' [0, 0, 1] rfl rfl : Hp S0 σ0 _ ([_] ++ _))) wn ?_
   rintro _ σ23 ⟨_, ⟨a21, c22, rfl, rfl⟩, H, -⟩
   replace H : Hp _ _ _ [_, _, _] := H
   refine sa (Sl a21 r18 c22) rfl (w_end (q_then (c_seq (rg (sm (Sl Am Ak Ao) rfl (sm (Sl Am Ak Ao) rfl (sm (I Bn) rfl ?_)))))))
   revert h; refine br fun r24 hx25 h => ?_
   have hc26 := c_spec_keyAt (Am := Am) (Ao := Ao) hx25
   refine st_call (cx_call hc26 (ent_f hc26.fn rfl) hn0 (H.sel' [1, 0, 1, 2] rfl rfl : Hp S0 σ0 _ ([_] ++ _))) wn ?_
   rintro _ σ27 ⟨_, ⟨rfl, rfl⟩, H, -⟩
   replace H : Hp _ _ _ [_, _, _] := H
   revert h; refine br fun x28 hx29 h => ?_
   obtain ⟨b31, o32, hi30, -⟩ := (H.ro 1 rfl).ix hx29
   refine st (v := (pt b31 o32)) (rv_ix Tryz.underlying27 ti45 rfl rfl hi30) ?_
   obtain ⟨_, ⟨_, _, rfl, rfl, ⟨_, _, rfl, ⟨_, rfl, hR37⟩, rfl⟩⟩, hl33, hc34⟩ := ((H.ro 1 rfl).at hx29 hi30).cells
   obtain ⟨a35, c36, rfl⟩ := hR37.isSl
   replace H := H.add (d := Ch.ro 0 (Sl a35 x28.2.1 c36) x28.2.1) hR37 (fun _ h => h)
   clear hR37
   refine st (v := (.agg #[(I x28.1), (Sl a35 x28.2.1 c36), (I x28.2.2)])) (rv_load Tryz.underlying45 rfl ti45 rfl hl33 hc34) (sm (I Ax) rfl (sm (Sl Bp Bo Bq) rfl ?_))
   revert h; refine br fun r38 hx39 h => ?_
   have hc40 := c_spec_hit (Au := a35) (Av := c36) (Az := Bp) (Ba := Bq) hx39
   refine st_call (cx_call hc40 (ent_f hc40.fn rfl) hn0 (H.sel' [0, 3, 0, 1, 2, 3] rfl rfl : Hp S0 σ0 _ ([_, _] ++ _))) wn ?_
   rintro _ σ41 ⟨_, ⟨rfl, rfl⟩, H, -⟩
   replace H : Hp _ _ _ [_, _, _, _] := H
   refine st_ex (ex_alloc (cs := [(I 0), (I 0)]) H hn0 ti43 rfl) wn ?_
   rintro _ σ43 ⟨b42, rfl, H, -⟩
   refine st_exS (ex_store_box (k := 0) (cs := [(I 0), (I 0)]) (vs := [(I r38.1), (I r38.2)]) (cs' := [(I r38.1), (I r38.2)]) H (i := 0) rfl ti43 rfl rfl rfl rfl rfl (Nat.le_of_ble_eq_true rfl) (by simp [plain]) rfl) wn ?_
   rintro σ44 ⟨H, -⟩
   refine w_end (q_then (c_seq (rg (st (v := (pt b42 0)) (rv_fieldAddr (off := 0) (ft := 3) Tryz.underlying43 rfl ti3 rfl rfl) ?_))))
   have hc45 := H.cell (u := (I r38.1)) (o' := 0) 0 0 rfl rfl rfl
   refine st (v := (I r38.1)) (rv_load1 Tryz.underlying3 rfl rfl hc45) ?_
   refine st_ex (ex_buildSlice (el := n0) (xs := ([r38.1] : List Int)) (ps := [(0, (I r38.1))]) (cs := [(I r38.1)]) H hn0 Tryz.underlying23 ti3 rfl rfl (by kernel_rfl) (.cons (c := [(I r38.1)]) rfl (.nil)) rfl) wn ?_
   rintro _ σ47 ⟨b46, rfl, H, -⟩
   refine sa (Sl (some ⟨b46, 0, none⟩) ([r38.1] : List Int) 1) rfl (w_end (q_then ?_))
   obtain ⟨o48, hj, h'⟩ := bind_some h
   clear h
   refine c_cut (fun e a w => e = .ret ∧ ∃ (ρ : Nat → Value) (σ : St) (aj1 : Option Addr) (cj2 : Nat), a = fr 91 (updL ρ [(10, (Sl aj1 o48.1 cj2)), (11, (B o48.2))]) ∧ w = σ.w ∧ Hp S0 σ0 σ [Ch.own n0 n0 (Sl aj1 o48.1 cj2) o48.1]) ?_ ?_
   ·clear h'
    rename _ = some o48 => h
    refine c_blk (wp_loopM _ h (fun s49 a w => ∃ (ρ : Nat → Value) (σ : St) (aj1 : Option Addr) (cj2 : Nat), a = fr 91 (updL ρ [(0, (Sl Am Ak Ao)), (1, (I Ax)), (4, (Sl Bp Bo Bq)), (12, (Sl a21 r18 c22)), (13, (pt b42 0)), (14, (Sl aj1 s49.2 cj2))]) ∧ w = σ.w ∧ Hp S0 σ0 σ [Ch.bx n0 b42 0 [(I s49.1.1), (I s49.1.2)] [] [], Ch.ro 0 (Sl Am Ak Ao) Ak, Ch.ro 0 (Sl Bp Bo Bq) Bo, Ch.own n0 n0 (Sl a21 r18 c22) r18, Ch.own n0 n0 (Sl aj1 s49.2 cj2) s49.2]) ⟨_, σ47, (some ⟨b46, 0, none⟩), 1, fr_join ⟨rfl, rfl, rfl, rfl, rfl, rfl, trivial⟩, rfl, H.sel' [1, 4, 5, 3, 0] rfl rfl⟩ ?_)
    clear h H
    rintro s49 a w o ⟨ρ, σ50, a51, c52, rfl, rfl, H⟩ h hres
    refine c_blk (c_seq (rg ?_))
    have hc53 := H.cells 0 rfl
    refine st (v := (.agg #[(I s49.1.1), (I s49.1.2)])) (rv_load (cs := [(I s49.1.1), (I s49.1.2)]) Tryz.underlying43 rfl ti43 rfl rfl hc53) (st_ex (ex_alloc (cs := [(I 0), (I 0)]) H hn0 ti43 rfl) wn ?_)
    rintro _ σ55 ⟨b54, rfl, H, -⟩
    refine st_exS (ex_store_box (k := 0) (cs := [(I 0), (I 0)]) (vs := [(I s49.1.1), (I s49.1.2)]) (cs' := [(I s49.1.1), (I s49.1.2)]) H (i := 0) rfl ti43 rfl rfl rfl rfl rfl (Nat.le_of_ble_eq_true rfl) (by simp [plain]) rfl) wn ?_
    rintro σ56 ⟨H, -⟩
    refine w_end (q_then (c_seq (rg (sm (Sl a21 r18 c22) rfl (sm (Sl Am Ak Ao) rfl (st (v := (pt b42 0)) (rv_fieldAddr (off := 0) (ft := 3) Tryz.underlying43 rfl ti3 rfl rfl) ?_))))))
    have hc57 := H.cell (u := (I s49.1.1)) (o' := 0) 1 0 rfl rfl rfl
    refine st (v := (I s49.1.1)) (rv_load1 Tryz.underlying3 rfl rfl hc57) ?_
    revert h; refine br fun r58 hx59 h => ?_
    have hc60 := c_spec_keyAt (Am := Am) (Ao := Ao) hx59
    refine st_call (cx_call hc60 (ent_f hc60.fn rfl) hn0 (H.sel' [2, 0, 1, 2, 3, 4, 5] rfl rfl : Hp S0 σ0 _ ([_] ++ _))) wn ?_
    rintro _ σ61 ⟨_, ⟨rfl, rfl⟩, H, -⟩
    replace H : Hp _ _ _ [_, _, _, _, _, _] := H
    revert h; refine br fun x62 hx63 h => ?_
    obtain ⟨b65, o66, hi64, -⟩ := (H.own 4 rfl).ix hx63
    refine st (v := (pt b65 o66)) (rv_ix Tryz.underlying40 ti23 rfl rfl hi64) ?_
    obtain ⟨v70, hc71, hR69⟩ := ((H.own 4 rfl).at hx63 hi64).slice
    obtain ⟨a67, c68, rfl⟩ := hR69.isSl
    replace H := H.add (d := Ch.ro n0 (Sl a67 x62 c68) x62) hR69 (fun _ h => h)
    clear hR69
    refine st (v := (Sl a67 x62 c68)) (rv_load1 Tryz.underlying23 rfl rfl hc71) (sa (Sl a67 x62 c68) rfl (w_end (q_then (c_seq (c_seq (rg (sa (I 0) rfl (w_end (q_then ?_)))))))))
    obtain ⟨o72, hj, h'⟩ := bind_some h
    clear h
    refine c_cut (fun e a w => e = .normal ∧ ∃ (ρ : Nat → Value) (σ : St), a = fr 91 (updL ρ [(0, (Sl Am Ak Ao)), (1, (I Ax)), (4, (Sl Bp Bo Bq)), (12, (Sl a21 r18 c22)), (13, (pt b42 0)), (14, (Sl a51 s49.2 c52)), (15, (pt b54 0))]) ∧ w = σ.w ∧ Hp S0 σ0 σ [Ch.bx n0 b54 0 [(I o72.1), (I o72.2)] [] [], Ch.ro 0 (Sl Am Ak Ao) Ak, Ch.ro 0 (Sl Bp Bo Bq) Bo, Ch.own n0 n0 (Sl a21 r18 c22) r18, Ch.bx n0 b42 0 [(I s49.1.1), (I s49.1.2)] [] [], Ch.own n0 n0 (Sl a51 s49.2 c52) s49.2]) ?_ ?_
    ·clear h'
     rename _ = some o72 => h
     refine c_blk (wp_loopM _ h (fun s73 a w => ∃ (ρ : Nat → Value) (σ : St), a = fr 91 (updL ρ [(0, (Sl Am Ak Ao)), (1, (I Ax)), (4, (Sl Bp Bo Bq)), (12, (Sl a21 r18 c22)), (13, (pt b42 0)), (14, (Sl a51 s49.2 c52)), (15, (pt b54 0)), (16, (Sl a67 x62 c68)), (17, (I s73.2))]) ∧ w = σ.w ∧ Hp S0 σ0 σ [Ch.bx n0 b54 0 [(I s73.1.1), (I s73.1.2)] [] [], Ch.ro 0 (Sl Am Ak Ao) Ak, Ch.ro 0 (Sl Bp Bo Bq) Bo, Ch.own n0 n0 (Sl a21 r18 c22) r18, Ch.bx n0 b42 0 [(I s49.1.1), (I s49.1.2)] [] [], Ch.own n0 n0 (Sl a51 s49.2 c52) s49.2, Ch.ro n0 (Sl a67 x62 c68) x62]) ⟨_, σ61, fr_join ⟨rfl, rfl, rfl, rfl, rfl, rfl, rfl, rfl, rfl, trivial⟩, rfl, H.sel' [1, 3, 4, 5, 2, 6, 0] rfl rfl⟩ ?_)
     clear h H
     rintro s73 a w o ⟨ρ, σ74, rfl, rfl, H⟩ h hres
     refine c_seq (c_seq (rg (sm (I s73.2) rfl (sm (Sl a67 x62 c68) rfl (st (v := (I (x62.length : Int))) (rv_len Tryz.underlying23 rfl) (st (v := (B (decide (s73.2 < (x62.length : Int))))) (rv_lss (a := s73.2) (b := (x62.length : Int)) rfl rfl) (w_end (q_then ?_))))))))
     refine cd_cond (decide (s73.2 < (x62.length : Int))) rfl (fun hb75 => ?_) (fun hb75 => ?_)
     ·replace h := bif_t hb75 h
      refine c_skip (q_then (c_seq ?_))
      obtain ⟨o76, hj, h'⟩ := bind_some h
      clear h
      refine c_cut (fun e a w => e = .normal ∧ ∃ (ρ : Nat → Value) (σ : St), a = fr 91 (updL ρ [(0, (Sl Am Ak Ao)), (1, (I Ax)), (4, (Sl Bp Bo Bq)), (12, (Sl a21 r18 c22)), (13, (pt b42 0)), (14, (Sl a51 s49.2 c52)), (15, (pt b54 0)), (16, (Sl a67 x62 c68)), (17, (I s73.2))]) ∧ w = σ.w ∧ Hp S0 σ0 σ [Ch.bx n0 b54 0 [(I o76.1), (I o76.2)] [] [], Ch.ro 0 (Sl Am Ak Ao) Ak, Ch.ro 0 (Sl Bp Bo Bq) Bo, Ch.own n0 n0 (Sl a21 r18 c22) r18, Ch.bx n0 b42 0 [(I s49.1.1), (I s49.1.2)] [] [], Ch.own n0 n0 (Sl a51 s49.2 c52) s49.2, Ch.ro n0 (Sl a67 x62 c68) x62]) ?_ ?_
      ·clear h'
       rename _ = some o76 => h
       refine c_blk (c_seq (rg (sm (Sl Am Ak Ao) rfl (sm (Sl Am Ak Ao) rfl (sm (Sl a67 x62 c68) rfl (sm (I s73.2) rfl ?_))))))
       revert h; refine br fun x77 hx78 h => ?_
       obtain ⟨b80, o81, hi79, -⟩ := (H.ro 6 rfl).ix hx78
       refine st (v := (pt b80 o81)) (rv_ix Tryz.underlying23 ti3 rfl rfl hi79) ?_
       have hc82 := ((H.ro 6 rfl).at hx78 hi79).int
       refine st (v := (I x77)) (rv_load1 Tryz.underlying3 rfl rfl hc82) ?_
       revert h; refine br fun r83 hx84 h => ?_
       have hc85 := c_spec_keyAt (Am := Am) (Ao := Ao) hx84
       refine st_call (cx_call hc85 (ent_f hc85.fn rfl) hn0 (H.sel' [1, 0, 1, 2, 3, 4, 5, 6] rfl rfl : Hp S0 σ0 _ ([_] ++ _))) wn ?_
       rintro _ σ86 ⟨_, ⟨rfl, rfl⟩, H, -⟩
       replace H : Hp _ _ _ [_, _, _, _, _, _, _] := H
       revert h; refine br fun x87 hx88 h => ?_
       obtain ⟨b90, o91, hi89, -⟩ := (H.ro 1 rfl).ix hx88
       refine st (v := (pt b90 o91)) (rv_ix Tryz.underlying27 ti45 rfl rfl hi89) ?_
       obtain ⟨_, ⟨_, _, rfl, rfl, ⟨_, _, rfl, ⟨_, rfl, hR96⟩, rfl⟩⟩, hl92, hc93⟩ := ((H.ro 1 rfl).at hx88 hi89).cells
       obtain ⟨a94, c95, rfl⟩ := hR96.isSl
       replace H := H.add (d := Ch.ro 0 (Sl a94 x87.2.1 c95) x87.2.1) hR96 (fun _ h => h)
       clear hR96
       refine st (v := (.agg #[(I x87.1), (Sl a94 x87.2.1 c95), (I x87.2.2)])) (rv_load Tryz.underlying45 rfl ti45 rfl hl92 hc93) (sm (I Ax) rfl (sm (Sl Bp Bo Bq) rfl ?_))
       revert h; refine br fun r97 hx98 h => ?_
       have hc99 := c_spec_hit (Au := a94) (Av := c95) (Az := Bp) (Ba := Bq) hx98
       refine st_call (cx_call hc99 (ent_f hc99.fn rfl) hn0 (H.sel' [0, 3, 0, 1, 2, 3, 4, 5, 6, 7] rfl rfl : Hp S0 σ0 _ ([_, _] ++ _))) wn ?_
       rintro _ σ100 ⟨_, ⟨rfl, rfl⟩, H, -⟩
       replace H : Hp _ _ _ [_, _, _, _, _, _, _, _] := H
       replace H : Hp S0 σ0 σ100 [Ch.bx n0 b54 0 [(I s73.1.1), (I s73.1.2)] [] [], Ch.ro 0 (Sl Am Ak Ao) Ak, Ch.ro 0 (Sl Bp Bo Bq) Bo, Ch.own n0 n0 (Sl a21 r18 c22) r18, Ch.bx n0 b42 0 [(I s49.1.1), (I s49.1.2)] [] [], Ch.own n0 n0 (Sl a51 s49.2 c52) s49.2, Ch.ro n0 (Sl a67 x62 c68) x62] := H.sel' [1, 2, 3, 4, 5, 6, 7] rfl rfl
       refine st_ex (ex_alloc (cs := [(I 0), (I 0)]) H hn0 ti43 rfl) wn ?_
       rintro _ σ102 ⟨b101, rfl, H, -⟩
       refine st_exS (ex_store_box (k := 0) (cs := [(I 0), (I 0)]) (vs := [(I r97.1), (I r97.2)]) (cs' := [(I r97.1), (I r97.2)]) H (i := 0) rfl ti43 rfl rfl rfl rfl rfl (Nat.le_of_ble_eq_true rfl) (by simp [plain]) rfl) wn ?_
       rintro σ103 ⟨H, -⟩
       refine w_end (q_then (c_seq (rg ?_)))
       have hc104 := H.cells 0 rfl
       refine st (v := (.agg #[(I r97.1), (I r97.2)])) (rv_load (cs := [(I r97.1), (I r97.2)]) Tryz.underlying43 rfl ti43 rfl rfl hc104) ?_
       have hc105 := H.cells 1 rfl
       refine st (v := (.agg #[(I s73.1.1), (I s73.1.2)])) (rv_load (cs := [(I s73.1.1), (I s73.1.2)]) Tryz.underlying43 rfl ti43 rfl rfl hc105) ?_
       revert h; refine br fun r106 hx107 h => ?_
       have hc108 := c_spec_nearer hx107
       refine st_call (cx_call hc108 (ent_f hc108.fn rfl) hn0 (H.sel' [0, 1, 2, 3, 4, 5, 6, 7] rfl rfl : Hp S0 σ0 _ ([] ++ _))) wn ?_
       rintro _ σ109 ⟨_, ⟨rfl, rfl⟩, H, -⟩
       replace H : Hp _ _ _ [_, _, _, _, _, _, _, _] := H
       refine w_end (q_then ?_)
       refine cd_cond r106 rfl (fun hb110 => ?_) (fun hb110 => ?_)
       ·replace h := bif_t hb110 h
        refine rg ?_
        have hc111 := H.cells 0 rfl
        refine st (v := (.agg #[(I r97.1), (I r97.2)])) (rv_load (cs := [(I r97.1), (I r97.2)]) Tryz.underlying43 rfl ti43 rfl rfl hc111) ?_
        refine st_exS (ex_store_box (k := 0) (cs := [(I s73.1.1), (I s73.1.2)]) (vs := [(I r97.1), (I r97.2)]) (cs' := [(I r97.1), (I r97.2)]) H (i := 1) rfl ti43 rfl rfl rfl rfl rfl (Nat.le_of_ble_eq_true rfl) (by simp [plain]) rfl) wn ?_
        rintro σ112 ⟨H, -⟩
        replace H : Hp S0 σ0 σ112 [Ch.bx n0 b54 0 [(I r97.1), (I r97.2)] [] [], Ch.ro 0 (Sl Am Ak Ao) Ak, Ch.ro 0 (Sl Bp Bo Bq) Bo, Ch.own n0 n0 (Sl a21 r18 c22) r18, Ch.bx n0 b42 0 [(I s49.1.1), (I s49.1.2)] [] [], Ch.own n0 n0 (Sl a51 s49.2 c52) s49.2, Ch.ro n0 (Sl a67 x62 c68) x62] := H.sel' [0, 2, 3, 4, 5, 6, 7] rfl rfl
        refine w_end (q_blk ?_)
        obtain rfl := sj h
        exact ⟨rfl, _, σ112, fr_join ⟨rfl, rfl, rfl, rfl, rfl, rfl, rfl, rfl, rfl, trivial⟩, rfl, H.sel' [0, 1, 2, 3, 4, 5, 6] rfl rfl⟩
       ·replace h := bif_f hb110 h
        refine c_skip (q_blk ?_)
        obtain rfl := sj h
        exact ⟨rfl, _, σ109, fr_join ⟨rfl, rfl, rfl, rfl, rfl, rfl, rfl, rfl, rfl, trivial⟩, rfl, H.sel' [1, 2, 3, 4, 5, 6, 7] rfl rfl⟩
      ·clear hj
       have h := h'
       clear h' H
       rintro e a w ⟨rfl, ρ, σ113, rfl, rfl, H⟩
       refine q_then (rg (sm (I s73.2) rfl (st (v := (I (w64 (s73.2 + 1)))) (rv_add (a := s73.2) (b := 1) rfl rfl) (sa (I (w64 (s73.2 + 1))) rfl (w_end (q_then ?_))))))
       obtain rfl := sj h
       exact ⟨_, rfl, _, σ113, fr_join ⟨rfl, rfl, rfl, rfl, rfl, rfl, rfl, rfl, rfl, trivial⟩, rfl, H.sel' [0, 1, 2, 3, 4, 5, 6] rfl rfl⟩
     ·replace h := bif_f hb75 h
      refine c_exit (q_then_x (q_then_x (q_blk_hit ?_)))
      obtain rfl := sj h
      obtain rfl := hres _ rfl
      exact ⟨rfl, _, σ74, fr_join ⟨rfl, rfl, rfl, rfl, rfl, rfl, rfl, trivial⟩, rfl, H.sel' [0, 1, 2, 3, 4, 5] rfl rfl⟩
    ·clear hj
     have h := h'
     clear h' H
     rintro e a w ⟨rfl, ρ, σ114, rfl, rfl, H⟩
     refine q_then (c_seq (c_seq (rg ?_)))
     have hc115 := H.cells 0 rfl
     refine st (v := (.agg #[(I o72.1), (I o72.2)])) (rv_load (cs := [(I o72.1), (I o72.2)]) Tryz.underlying43 rfl ti43 rfl rfl hc115) ?_
     have hc116 := H.cells 4 rfl
     refine st (v := (.agg #[(I s49.1.1), (I s49.1.2)])) (rv_load (cs := [(I s49.1.1), (I s49.1.2)]) Tryz.underlying43 rfl ti43 rfl rfl hc116) ?_
     refine st (v := (B (([o72.1, o72.2] : List Int) == ([s49.1.1, s49.1.2] : List Int)))) (rv_eqlI (xs := ([o72.1, o72.2] : List Int)) (ys := ([s49.1.1, s49.1.2] : List Int)) (by kernel_rfl) (by kernel_rfl) (by kernel_rfl) rfl (by kernel_rfl) (by exact intfs43) rfl rfl) ?_
     refine w_end (q_then ?_)
     refine cd_cond (([o72.1, o72.2] : List Int) == ([s49.1.1, s49.1.2] : List Int)) rfl (fun hb117 => ?_) (fun hb117 => ?_)
     ·replace h := bif_t hb117 h
      refine c_seq (rg (sm (Sl a51 s49.2 c52) rfl (sa (Sl a51 s49.2 c52) rfl (sa (B true) rfl (w_end (q_then (c_ret (q_then_r (q_blk_r (q_then_r (q_blk_r ?_)))))))))))
      obtain rfl := sj h
      obtain rfl := hres _ rfl
      exact ⟨rfl, _, σ114, a51, c52, fr_join ⟨rfl, rfl, trivial⟩, rfl, H.sel' [5] rfl rfl⟩
     ·replace h := bif_f hb117 h
      refine c_skip (q_then (c_seq (rg ?_)))
      have hc118 := H.cells 0 rfl
      refine st (v := (.agg #[(I o72.1), (I o72.2)])) (rv_load (cs := [(I o72.1), (I o72.2)]) Tryz.underlying43 rfl ti43 rfl rfl hc118) ?_
      refine st_exS (ex_store_box (k := 0) (cs := [(I s49.1.1), (I s49.1.2)]) (vs := [(I o72.1), (I o72.2)]) (cs' := [(I o72.1), (I o72.2)]) H (i := 4) rfl ti43 rfl rfl rfl rfl rfl (Nat.le_of_ble_eq_true rfl) (by simp [plain]) rfl) wn ?_
      rintro σ119 ⟨H, -⟩
      refine w_end (q_then (rg (sm (Sl a51 s49.2 c52) rfl (st (v := (pt b42 0)) (rv_fieldAddr (off := 0) (ft := 3) Tryz.underlying43 rfl ti3 rfl rfl) ?_))))
      have hc120 := H.cell (u := (I o72.1)) (o' := 0) 0 0 rfl rfl rfl
      refine st (v := (I o72.1)) (rv_load1 Tryz.underlying3 rfl rfl hc120) ?_
      refine st_ex (ex_buildSlice (el := n0) (xs := ([o72.1] : List Int)) (ps := [(0, (I o72.1))]) (cs := [(I o72.1)]) H hn0 Tryz.underlying23 ti3 rfl rfl (by kernel_rfl) (.cons (c := [(I o72.1)]) rfl (.nil)) rfl) wn ?_
      rintro _ σ122 ⟨b121, rfl, H, -⟩
      revert h; refine br fun xs123 hx124 h => ?_
      refine st_ex (ex_append H (i := 6) rfl Tryz.underlying23 Tryz.underlying23 ti3 rfl rfl (by decide) (H.own 0 rfl).rd hx124 hn0 rfl rfl) wn ?_
      rintro _ σ127 ⟨a125, c126, rfl, H, -⟩
      refine sa (Sl a125 xs123 c126) rfl (w_end (q_blk (q_then ?_)))
      obtain rfl := sj h
      exact ⟨_, rfl, _, σ127, a125, c126, fr_join ⟨rfl, rfl, rfl, rfl, rfl, rfl, trivial⟩, rfl, H.sel' [2, 4, 5, 6, 0] rfl rfl⟩
   ·clear hj
    have h := h'
    clear h' H
    rintro e a w ⟨rfl, ρ, σ128, a129, c130, rfl, rfl, H⟩
    obtain rfl := sj h
    exact fin_ret (v := (.tuple #[(Sl a129 o48.1 c130), (B o48.2)])) (results_ok Tryz.results5 (res_tmp (v := (Sl a129 o48.1 c130)) rfl (res_tmp (v := (B o48.2)) rfl res_nil)) rfl) ⟨a129, c130, rfl, rfl⟩ (H.sel' [0] rfl rfl)

theorem c_laws_toIntS {Aa : List Int} {Ad : Option Addr} {Ae : Nat} {r : (List Int)} (h : M.laws_toIntS Aa = some r) :
    Cal2 Tryz.prog 7 [(Sl Ad Aa Ae)] [Ch.ro 0 (Sl Ad Aa Ae) Aa] (fun n0 v L => ∃ (az1 : Option Addr), ∃ (cz2 : Nat), v = (Sl az1 r cz2) ∧ L = [Ch.own n0 n0 (Sl az1 r cz2) r] ∧ cz2 = r.length) := by
 refine cal2 (n := 22) Tryz.func7 rfl rfl rfl rfl ?_
 intro S0 σ0 n0 hn0 H
 unfold M.laws_toIntS at h
 refine c_seq (rg (sa (.slice none 0 0) rfl (w_end (q_then (c_seq (rg (sm (Sl Ad Aa Ae) rfl (st (v := (I (Aa.length : Int))) (rv_len Tryz.underlying23 rfl) ?_))))))))
 revert h; refine br fun xs1 hx2 h => ?_
 refine st_ex (ex_make (el := n0) (z0 := (0 : Int)) (zs := [(I 0)]) H hn0 Tryz.underlying23 ti3 rfl rfl rfl (by decide) hx2 rfl rfl) wn ?_
 rintro _ σ6 ⟨b3, c4, rfl, ht5, H, -⟩
 replace ht5 := ht5.trans (gmake_len hx2).symm
 refine sa (Sl (some ⟨b3, 0, none⟩) xs1 c4) rfl (w_end (q_then (c_seq (c_seq (rg (sa (I 0) rfl (w_end (q_then ?_))))))))
 obtain ⟨o7, hj, h'⟩ := bind_some h
 clear h
 refine c_cut (fun e a w => e = .normal ∧ ∃ (ρ : Nat → Value) (σ : St), a = fr 22 (updL ρ [(3, (Sl (some ⟨b3, 0, none⟩) o7 c4))]) ∧ w = σ.w ∧ Hp S0 σ0 σ [Ch.own n0 n0 (Sl (some ⟨b3, 0, none⟩) o7 c4) o7] ∧ c4 = o7.length ∧ o7.length = xs1.length) ?_ ?_
 ·clear h'
  rename _ = some o7 => h
  refine c_blk (wp_loopM _ h (fun s8 a w => ∃ (ρ : Nat → Value) (σ : St), a = fr 22 (updL ρ [(0, (Sl Ad Aa Ae)), (3, (Sl (some ⟨b3, 0, none⟩) s8.1 c4)), (4, (I s8.2))]) ∧ w = σ.w ∧ Hp S0 σ0 σ [Ch.ro 0 (Sl Ad Aa Ae) Aa, Ch.own n0 n0 (Sl (some ⟨b3, 0, none⟩) s8.1 c4) s8.1] ∧ c4 = s8.1.length ∧ s8.1.length = xs1.length) ⟨_, σ6, fr_join ⟨rfl, rfl, rfl, trivial⟩, rfl, H.sel' [1, 0] rfl rfl, ht5, rfl⟩ ?_)
  clear h H
  rintro s8 a w o ⟨ρ, σ9, rfl, rfl, H, ht10, hn11⟩ h hres
  refine c_seq (c_seq (rg (sm (I s8.2) rfl (sm (Sl Ad Aa Ae) rfl (st (v := (I (Aa.length : Int))) (rv_len Tryz.underlying23 rfl) (st (v := (B (decide (s8.2 < (Aa.length : Int))))) (rv_lss (a := s8.2) (b := (Aa.length : Int)) rfl rfl) (w_end (q_then ?_))))))))
  refine cd_cond (decide (s8.2 < (Aa.length : Int))) rfl (fun hb12 => ?_) (fun hb12 => ?_)
  ·replace h := bif_t hb12 h
   refine c_skip (q_then (c_seq (c_blk (rg (sm (Sl (some ⟨b3, 0, none⟩) s8.1 c4) rfl (sm (I s8.2) rfl (sm (Sl Ad Aa Ae) rfl (sm (I s8.2) rfl ?_))))))))
   revert h; refine br fun x13 hx14 h => ?_
   obtain ⟨b16, o17, hi15, -⟩ := (H.ro 0 rfl).ix hx14
   refine st (v := (pt b16 o17)) (rv_ix Tryz.underlying23 ti3 rfl rfl hi15) ?_
   have hc18 := ((H.ro 0 rfl).at hx14 hi15).int
   refine st (v := (I x13)) (rv_load1 Tryz.underlying3 rfl rfl hc18) ?_
   revert h; refine br fun x19 hx20 h => ?_
   obtain ⟨b22, o23, hi21, -⟩ := (H.own 1 rfl).ix hx20
   refine st (v := (pt b22 o23)) (rv_ix Tryz.underlying23 ti3 rfl rfl hi21) ?_
   refine st_exS (ex_store_own (e' := x13) (vs := [(I x13)]) (k := 0) H (i := 1) rfl ti3 hx20 hi21 rfl rfl rfl rfl rfl (Nat.le_of_ble_eq_true rfl) (by simp [plain]) (by rintro _ rfl; exact rfl)) wn ?_
   rintro σ24 ⟨H, -⟩
   have hsl : (Sl (some ⟨b3, 0, none⟩) s8.1 c4) = (Sl (some ⟨b3, 0, none⟩) (s8.1.set s8.2.toNat x13) c4) := sl_len List.length_set.symm
   rw [hsl]; rw [hsl] at H; clear hsl
   refine w_end (q_blk (q_then (rg (sm (I s8.2) rfl (st (v := (I (w64 (s8.2 + 1)))) (rv_add (a := s8.2) (b := 1) rfl rfl) (sa (I (w64 (s8.2 + 1))) rfl (w_end (q_then ?_))))))))
   obtain rfl := sj h
   exact ⟨_, rfl, _, σ24, fr_join ⟨rfl, rfl, rfl, trivial⟩, rfl, H.sel' [1, 0] rfl rfl, (ht10.trans List.length_set.symm), (List.length_set.trans hn11)⟩
  ·replace h := bif_f hb12 h
   refine c_exit (q_then_x (q_then_x (q_blk_hit ?_)))
   obtain rfl := sj h
   obtain rfl := hres _ rfl
   exact ⟨rfl, _, σ9, fr_join ⟨rfl, trivial⟩, rfl, H.sel' [1] rfl rfl, ht10, hn11⟩
 ·clear hj
  have h := h'
  clear h' H
  rintro e a w ⟨rfl, ρ, σ25, rfl, rfl, H, ht26, hn27⟩
  refine q_then (c_seq (rg (sm (Sl (some ⟨b3, 0, none⟩) o7 c4) rfl (sa (Sl (some ⟨b3, 0, none⟩) o7 c4) rfl (w_end (q_then (c_ret ?_)))))))
  obtain rfl := sj h
  exact fin_ret (v := (Sl (some ⟨b3, 0, none⟩) o7 c4)) (results_ok Tryz.results7 (res_tmp (v := (Sl (some ⟨b3, 0, none⟩) o7 c4)) rfl res_nil) rfl) ⟨(some ⟨b3, 0, none⟩), c4, rfl, rfl, ht26⟩ (H.sel' [0] rfl rfl)

theorem c_laws_toItem {Aa : Int × (List Int) × Int} {Af : Option Addr} {Ag : Nat} {r : (Int × (List Int) × Int)} (h : M.laws_toItem Aa = some r) :
    Cal2 Tryz.prog 21 [(.agg #[(I Aa.1), (Sl Af Aa.2.1 Ag), (I Aa.2.2)])] [Ch.ro 0 (Sl Af Aa.2.1 Ag) Aa.2.1] (fun n0 v L => ∃ (az1 : Option Addr), ∃ (cz2 : Nat), v = (.agg #[(I r.1), (Sl az1 r.2.1 cz2), (I r.2.2)]) ∧ L = [Ch.own n0 n0 (Sl az1 r.2.1 cz2) r.2.1] ∧ cz2 = r.2.1.length) := by
 refine cal2 (n := 15) Tryz.func21 rfl rfl rfl rfl ?_
 intro S0 σ0 n0 hn0 H
 unfold M.laws_toItem at h
 refine c_seq (rg (st_ex (ex_box (cs := [(I Aa.1), (Sl Af Aa.2.1 Ag), (I Aa.2.2)]) H hn0 rfl rfl) wn ?_))
 rintro _ σ2 ⟨b1, rfl, H, -⟩
 refine st_ex (ex_alloc (cs := [(I 0), (.slice none 0 0), (I 0)]) H hn0 ti45 rfl) wn ?_
 rintro _ σ4 ⟨b3, rfl, H, -⟩
 refine w_end (q_then (c_seq (rg (st_ex (ex_alloc (cs := [(I 0), (.slice none 0 0), (I 0)]) H hn0 ti45 rfl) wn ?_))))
 rintro _ σ6 ⟨b5, rfl, H, -⟩
 refine w_end (q_then (c_seq (rg (st (v := (pt b1 0)) (rv_fieldAddr (off := 0) (ft := 3) Tryz.underlying37 rfl ti3 rfl rfl) ?_))))
 have hc7 := H.cell (u := (I Aa.1)) (o' := 0) 2 0 rfl rfl rfl
 refine st (v := (I Aa.1)) (rv_load1 Tryz.underlying3 rfl rfl hc7) (st (v := (pt b5 0)) (rv_fieldAddr (off := 0) (ft := 3) Tryz.underlying45 rfl ti3 rfl rfl) ?_)
 refine st_exS (ex_store_box (k := 0) (cs := [(I 0), (.slice none 0 0), (I 0)]) (vs := [(I Aa.1)]) (cs' := [(I Aa.1), (.slice none 0 0), (I 0)]) H (i := 0) rfl ti3 rfl rfl rfl rfl rfl (Nat.le_of_ble_eq_true rfl) (by simp [plain]) rfl) wn ?_
 rintro σ8 ⟨H, -⟩
 refine w_end (q_then (c_seq (rg (st (v := (pt b1 1)) (rv_fieldAddr (off := 1) (ft := 23) Tryz.underlying37 rfl ti23 rfl rfl) ?_))))
 have hc9 := H.cell (u := (Sl Af Aa.2.1 Ag)) (o' := 1) 2 1 rfl rfl rfl
 refine st (v := (Sl Af Aa.2.1 Ag)) (rv_load1 Tryz.underlying23 rfl rfl hc9) ?_
 revert h; refine br fun r10 hx11 h => ?_
 have hc12 := c_laws_toIntS (Ad := Af) (Ae := Ag) hx11
 refine st_call (cx_call hc12 (ent_f hc12.fn rfl) hn0 (H.sel' [3, 0, 1, 2, 3] rfl rfl : Hp S0 σ0 _ ([_] ++ _))) wn ?_
 rintro _ σ16 ⟨_, ⟨a13, c14, rfl, rfl, ht15⟩, H, -⟩
 replace H : Hp _ _ _ [_, _, _, _, _] := H
 refine st (v := (pt b5 1)) (rv_fieldAddr (off := 1) (ft := 23) Tryz.underlying45 rfl ti23 rfl rfl) ?_
 refine st_exS (ex_store_box (k := 1) (cs := [(I Aa.1), (.slice none 0 0), (I 0)]) (vs := [(Sl a13 r10 c14)]) (cs' := [(I Aa.1), (Sl a13 r10 c14), (I 0)]) H (i := 1) rfl ti23 rfl rfl rfl rfl rfl (Nat.le_of_ble_eq_true rfl) (by simp [plain]) rfl) wn ?_
 rintro σ17 ⟨H, -⟩
 refine w_end (q_then (c_seq (rg (st (v := (pt b1 2)) (rv_fieldAddr (off := 2) (ft := 3) Tryz.underlying37 rfl ti3 rfl rfl) ?_))))
 have hc18 := H.cell (u := (I Aa.2.2)) (o' := 2) 3 2 rfl rfl rfl
 refine st (v := (I Aa.2.2)) (rv_load1 Tryz.underlying3 rfl rfl hc18) (st (v := (pt b5 2)) (rv_fieldAddr (off := 2) (ft := 3) Tryz.underlying45 rfl ti3 rfl rfl) ?_)
 refine st_exS (ex_store_box (k := 2) (cs := [(I Aa.1), (Sl a13 r10 c14), (I 0)]) (vs := [(I Aa.2.2)]) (cs' := [(I Aa.1), (Sl a13 r10 c14), (I Aa.2.2)]) H (i := 0) rfl ti3 rfl rfl rfl rfl rfl (Nat.le_of_ble_eq_true rfl) (by simp [plain]) rfl) wn ?_
 rintro σ19 ⟨H, -⟩
 refine w_end (q_then (c_seq (rg ?_)))
 have hc20 := H.cells 0 rfl
 refine st (v := (.agg #[(I Aa.1), (Sl a13 r10 c14), (I Aa.2.2)])) (rv_load (cs := [(I Aa.1), (Sl a13 r10 c14), (I Aa.2.2)]) Tryz.underlying45 rfl ti45 rfl rfl hc20) ?_
 refine st_exS (ex_store_box (k := 0) (cs := [(I 0), (.slice none 0 0), (I 0)]) (vs := [(I Aa.1), (Sl a13 r10 c14), (I Aa.2.2)]) (cs' := [(I Aa.1), (Sl a13 r10 c14), (I Aa.2.2)]) H (i := 2) rfl ti45 rfl rfl rfl rfl rfl (Nat.le_of_ble_eq_true rfl) (by simp [plain]) rfl) wn ?_
 rintro σ21 ⟨H, -⟩
 refine w_end (q_then (c_ret ?_))
 obtain rfl := sj h
 exact fin_ret (v := (.agg #[(I Aa.1), (Sl a13 r10 c14), (I Aa.2.2)])) (results_ok Tryz.results21 (res_cell rfl (run_cellRes (cs := [(I Aa.1), (Sl a13 r10 c14), (I Aa.2.2)]) Tryz.underlying45 rfl ti45 rfl (H.cells 0 rfl)) res_nil) rfl) ⟨a13, c14, rfl, rfl, ht15⟩ (H.sel' [2] rfl rfl)

theorem c_laws_toItemS {Aa : List (Int × (List Int) × Int)} {Ad : Option Addr} {Ae : Nat} {r : (List (Int × (List Int) × Int))} (h : M.dItemS Aa = some r) :
    Cal2 Tryz.prog 6 [(Sl Ad Aa Ae)] [Ch.ro 0 (Sl Ad Aa Ae) Aa] (fun n0 v L => ∃ (az1 : Option Addr), ∃ (cz2 : Nat), ∃ (K : List Ch), v = (Sl az1 r cz2) ∧ L = [Ch.big K] ∧ Dp n0 (Sl az1 r cz2) r K) := by
 obtain ⟨hn, hx, rfl⟩ := dItemS_some h
 clear h
 refine cal2 (n := 23) Tryz.func6 rfl rfl rfl rfl ?_
 intro S0 σ0 n0 hn0 H
 refine c_seq (rg (sa (.slice none 0 0) rfl (w_end (q_then (c_seq (rg (sm (Sl Ad r Ae) rfl (st (v := (I (r.length : Int))) (rv_len Tryz.underlying22 rfl) ?_))))))))
 refine st_ex (ex_make (el := n0) (z0 := ((0, (.slice none 0 0), 0) : Int × Value × Int)) (zs := [(I 0), (.slice none 0 0), (I 0)]) H hn0 Tryz.underlying27 ti45 rfl rfl (⟨[(I 0)], [(.slice none 0 0), (I 0)], rfl, rfl, ⟨[(.slice none 0 0)], [(I 0)], rfl, ⟨rfl, rfl⟩, rfl⟩⟩) (by decide) (gmake_nat _ _ hn) rfl rfl) (wanted_none _ rfl _) ?_
 rintro _ σ6 ⟨b3, c4, rfl, ht5, H, -⟩
 rw [show (Sl (some ⟨b3, 0, none⟩) (List.replicate r.length ((0, (.slice none 0 0), 0) : Int × Value × Int)) c4) = (Sl (some ⟨b3, 0, none⟩) r c4) from sl_len (by simp)] at H ⊢
 refine sa (Sl (some ⟨b3, 0, none⟩) r c4) rfl (w_end (q_then (c_seq (c_seq (rg (sa (I 0) rfl (w_end (q_then ?_))))))))
 refine c_cut (fun e a w => e = .normal ∧ ∃ (ρ : Nat → Value) (σ : St) (ps : List ((Int × (List Int) × Int) × Value)), a = fr 23 (updL ρ [(3, (Sl (some ⟨b3, 0, none⟩) r c4))]) ∧ w = σ.w ∧ ps.map (·.1) = r ∧ Hp S0 σ0 σ [Ch.own n0 n0 (Sl (some ⟨b3, 0, none⟩) r c4) (ps.map dsh), Ch.big (ps.map (dow n0))]) ?_ ?_
 ·refine c_blk ?_
  refine wp_loop_ghost (fun k a w => ∃ (i : Nat) (ρ : Nat → Value) (σ : St) (ps : List ((Int × (List Int) × Int) × Value)), i + k = r.length ∧ ps.length = i ∧ ps.map (·.1) = r.take i ∧ a = fr 23 (updL ρ [(0, (Sl Ad r Ae)), (3, (Sl (some ⟨b3, 0, none⟩) r c4)), (4, (I (i : Int)))]) ∧ w = σ.w ∧ Hp S0 σ0 σ [Ch.own n0 n0 (Sl (some ⟨b3, 0, none⟩) r c4) (ps.map dsh ++ List.replicate k ((0, (.slice none 0 0), 0) : Int × Value × Int)), Ch.ro 0 (Sl Ad r Ae) r, Ch.big (ps.map (dow n0))]) r.length ⟨0, _, σ6, [], by omega, rfl, rfl, fr_join ⟨rfl, rfl, rfl, trivial⟩, rfl, H.bigNil.sel' [1, 2, 0] rfl rfl⟩ ?_
  clear H
  rintro k _ _ ⟨i, ρ, σ9, ps, hik, hps, hpr, rfl, rfl, H⟩
  refine c_seq (c_seq (rg (sm (I (i : Int)) rfl (sm (Sl Ad r Ae) rfl (st (v := (I (r.length : Int))) (rv_len Tryz.underlying22 rfl) (st (v := (B (decide ((i : Int) < (r.length : Int))))) (rv_lss (a := (i : Int)) (b := (r.length : Int)) rfl rfl) (w_end (q_then ?_))))))))
  refine cd_cond (decide ((i : Int) < (r.length : Int))) rfl (fun hb => ?_) (fun hb => ?_)
  ·have hlt : i < r.length := by have := of_decide_eq_true hb; omega
   obtain ⟨m, rfl⟩ : ∃ m, k = m + 1 := ⟨k - 1, by omega⟩
   refine c_skip (q_then (c_seq (c_blk (rg (sm (Sl (some ⟨b3, 0, none⟩) r c4) rfl (sm (I (i : Int)) rfl (sm (Sl Ad r Ae) rfl (sm (I (i : Int)) rfl ?_))))))))
   have hx14 : gidx r (i : Int) = some r[i] := gidx_at hlt
   have hx24 := hx _ (List.getElem_mem hlt)
   have hpt : (ps.map (·.1)) ++ [r[i]] = r.take (i + 1) := by rw [hpr, List.take_succ_eq_append_getElem hlt]
   generalize r[i] = x13 at hx14 hx24 hpt
   obtain ⟨b16, o17, hi15, -⟩ := (H.ro 1 rfl).ix hx14
   refine st (v := (pt b16 o17)) (rv_ix Tryz.underlying22 ti37 rfl rfl hi15) ?_
   obtain ⟨_, ⟨_, _, rfl, rfl, ⟨_, _, rfl, ⟨_, rfl, hR22⟩, rfl⟩⟩, hl18, hc19⟩ := ((H.ro 1 rfl).at hx14 hi15).cells
   obtain ⟨a20, c21, rfl⟩ := hR22.isSl
   replace H := H.add (d := Ch.ro 0 (Sl a20 x13.2.1 c21) x13.2.1) hR22 (fun _ h => h)
   clear hR22
   refine st (v := (.agg #[(I x13.1), (Sl a20 x13.2.1 c21), (I x13.2.2)])) (rv_load Tryz.underlying37 rfl ti37 rfl hl18 hc19) ?_
   have hc25 := c_laws_toItem (Af := a20) (Ag := c21) hx24
   refine st_call (cx_call hc25 (ent_f hc25.fn rfl) hn0 (H.sel' [0, 1, 2, 3] rfl rfl : Hp S0 σ0 _ ([_] ++ _))) (wanted_none _ rfl _) ?_
   rintro _ σ29 ⟨_, ⟨a26, c27, rfl, rfl, ht28⟩, H, -⟩
   replace H : Hp _ _ _ [_, _, _, _] := H
   have hx31 := gidx_step (ps.map dsh) ((0, (.slice none 0 0), 0) : Int × Value × Int) m (i : Int) (by simp [hps])
   obtain ⟨b33, o34, hi32, -⟩ := (H.own 1 rfl).ix hx31
   refine st (v := (pt b33 o34)) (rv_ix Tryz.underlying27 ti45 rfl rfl hi32) ?_
   refine st_exS (ex_store_own (e' := ((x13.1, (Sl a26 x13.2.1 c27), x13.2.2) : Int × Value × Int)) (vs := [(I x13.1), (Sl a26 x13.2.1 c27), (I x13.2.2)]) (k := 0) H (i := 1) rfl ti45 hx31 hi32 rfl rfl rfl rfl rfl (Nat.le_of_ble_eq_true rfl) (by simp [plain]) (by rintro _ ⟨_, _, rfl, rfl, ⟨_, _, rfl, ⟨rfl, -⟩, rfl⟩⟩; exact ⟨[(I x13.1)], [(Sl a26 x13.2.1 c27), (I x13.2.2)], rfl, rfl, ⟨[(Sl a26 x13.2.1 c27)], [(I x13.2.2)], rfl, ⟨rfl, rfl⟩, rfl⟩⟩)) (wanted_none _ rfl _) ?_
   rintro σ40 ⟨H, -⟩
   refine w_end (q_blk (q_then (rg (sm (I (i : Int)) rfl (st (v := (I (w64 ((i : Int) + 1)))) (rv_add (a := (i : Int)) (b := 1) rfl rfl) (sa (I (w64 ((i : Int) + 1))) rfl (w_end ?_)))))))
   have e1 : w64 ((i : Int) + 1) = ((i + 1 : Nat) : Int) := w64_id (by omega) (by omega)
   rw [e1]
   refine q_then ?_
   have hset := set_step (ps.map dsh) ((0, (.slice none 0 0), 0) : Int × Value × Int) (x13.1, (Sl a26 x13.2.1 c27), x13.2.2) m
   rw [List.length_map, hps] at hset
   refine ⟨m, by omega, i + 1, _, σ40, ps ++ [(x13, (Sl a26 x13.2.1 c27))], by omega, by simp [hps], by simpa using hpt, fr_join ⟨rfl, rfl, rfl, trivial⟩, rfl, ?_⟩
   replace H := Hp.bigSnoc (H.sel' [1, 3, 0, 2] rfl rfl)
   replace H := H.sel' [1, 2, 0] rfl rfl
   simp only [Int.toNat_natCast, hset] at H
   rw [List.map_append, List.map_append]
   exact H
  ·have hlt : ¬ i < r.length := by have := of_decide_eq_false hb; omega
   obtain rfl : k = 0 := by omega
   obtain rfl : i = r.length := by omega
   refine c_exit (q_then_x (q_then_x (q_blk_hit ?_)))
   rw [List.take_length] at hpr
   simp only [List.replicate_zero, List.append_nil] at H
   exact ⟨rfl, _, σ9, ps, fr_join ⟨rfl, trivial⟩, rfl, hpr, H.sel' [0, 2] rfl rfl⟩
 ·clear H
  rintro e a w ⟨rfl, ρ, σ41, ps, rfl, rfl, hps, H⟩
  refine q_then (c_seq (rg (sm (Sl (some ⟨b3, 0, none⟩) r c4) rfl (sa (Sl (some ⟨b3, 0, none⟩) r c4) rfl (w_end (q_then (c_ret ?_)))))))
  exact fin_ret (v := (Sl (some ⟨b3, 0, none⟩) r c4)) (results_ok Tryz.results6 (res_tmp (v := (Sl (some ⟨b3, 0, none⟩) r c4)) rfl res_nil) rfl) ⟨(some ⟨b3, 0, none⟩), c4, _, rfl, rfl, ⟨ps, hps.symm, rfl⟩⟩ H.bigCons


theorem c_impl_validCoords {Br : List Int} {Bs : Option Addr} {Bt : Nat} {r : Bool} (h : M.impl_validCoords Br = some r) :
    Cal2 Tryz.prog 38 [(Sl Bs Br Bt)] [Ch.ro 0 (Sl Bs Br Bt) Br] (fun n0 v L => v = (B r) ∧ L = []) := by
 refine cal2 (n := 18) Tryz.func38 rfl rfl rfl rfl ?_
 intro S0 σ0 n0 hn0 H
 unfold M.impl_validCoords at h
 refine c_seq (rg (sa (B false) rfl (w_end (q_then (c_seq (c_seq (rg (sm (Sl Bs Br Bt) rfl (st (v := (I (Br.length : Int))) (rv_len Tryz.underlying23 rfl) (sm (I 0) rfl (w_end ?_)))))))))))
 refine q_then ?_
 obtain ⟨o1, hj, h'⟩ := bind_some h
 clear h
 refine c_cut (fun e a w => (∃ t, o1 = (.inl t) ∧ e = .normal ∧ ∃ (ρ : Nat → Value) (σ : St), a = fr 18 (updL ρ []) ∧ w = σ.w ∧ Hp S0 σ0 σ []) ∨ (∃ t, o1 = (.inr t) ∧ e = .ret ∧ ∃ (ρ : Nat → Value) (σ : St), a = fr 18 (updL ρ [(2, (B t))]) ∧ w = σ.w ∧ Hp S0 σ0 σ [])) ?_ ?_
 ·clear h'
  rename _ = some o1 => h
  refine c_blk (wp_loopM _ h (fun s2 a w => ∃ (ρ : Nat → Value) (σ : St), a = fr 18 (updL ρ [(5, (Sl Bs Br Bt)), (6, (I (Br.length : Int))), (7, (I s2))]) ∧ w = σ.w ∧ Hp S0 σ0 σ [Ch.ro 0 (Sl Bs Br Bt) Br]) ⟨_, σ0, fr_join ⟨rfl, rfl, rfl, trivial⟩, rfl, H.sel' [0] rfl rfl⟩ ?_)
  clear h H
  rintro s2 a w o ⟨ρ, σ3, rfl, rfl, H⟩ h hres
  refine c_seq (rg (st (v := (B (decide (s2 < (Br.length : Int))))) (rv_lss (a := s2) (b := (Br.length : Int)) rfl rfl) (w_end (q_then (c_seq ?_)))))
  refine cd_cond (decide (s2 < (Br.length : Int))) rfl (fun hb4 => ?_) (fun hb4 => ?_)
  ·replace h := bif_t hb4 h
   refine c_skip (q_then (c_seq (c_blk (c_seq (rg ?_)))))
   revert h; refine br fun x5 hx6 h => ?_
   obtain ⟨b8, o9, hi7, -⟩ := (H.ro 0 rfl).ix hx6
   refine st (v := (pt b8 o9)) (rv_ix Tryz.underlying23 ti3 rfl rfl hi7) ?_
   have hc10 := ((H.ro 0 rfl).at hx6 hi7).int
   refine st (v := (I x5)) (rv_load1 Tryz.underlying3 rfl rfl hc10) (sa (I x5) rfl (w_end (q_then (c_seq ?_))))
   obtain ⟨o11, hj, h'⟩ := bind_some h
   clear h
   refine c_cut (fun e a w => e = .normal ∧ ∃ (ρ : Nat → Value) (σ : St), a = fr 18 (updL ρ [(5, (Sl Bs Br Bt)), (6, (I (Br.length : Int))), (7, (I s2)), (16, (B o11))]) ∧ w = σ.w ∧ Hp S0 σ0 σ [Ch.ro 0 (Sl Bs Br Bt) Br]) ?_ ?_
   ·clear h'
    rename _ = some o11 => h
    refine rg (sm (I x5) rfl (st (v := (B (decide (x5 < (-100))))) (rv_lss (a := x5) (b := (-100)) rfl rfl) (sm (B (decide (x5 < (-100)))) rfl ?_)))
    rcases Bool.eq_false_or_eq_true (decide (x5 < (-100))) with hb12 | hb12
    ·replace h := bif_t hb12 h
     refine st_skip (congrArg some hb12) (st_skip (congrArg some hb12) (st (v := (B true)) (rv_pick_t (congrArg B hb12) rfl) (w_end ?_)))
     obtain rfl := sj h
     exact ⟨rfl, _, σ3, fr_join ⟨rfl, rfl, rfl, rfl, trivial⟩, rfl, H.sel' [0] rfl rfl⟩
    ·replace h := bif_f hb12 h
     refine st_g (v := (I x5)) (congrArg some hb12) (rv_move rfl) (st_g (v := (B (decide (100 < x5)))) (congrArg some hb12) (rv_gtr (a := x5) (b := 100) rfl rfl) (st (v := (B (decide (100 < x5)))) (rv_pick_f (congrArg B hb12) rfl) (w_end ?_)))
     obtain rfl := sj h
     exact ⟨rfl, _, σ3, fr_join ⟨rfl, rfl, rfl, rfl, trivial⟩, rfl, H.sel' [0] rfl rfl⟩
   ·clear hj
    have h := h'
    clear h' H
    rintro e a w ⟨rfl, ρ, σ13, rfl, rfl, H⟩
    refine q_then ?_
    refine cd_cond o11 rfl (fun hb14 => ?_) (fun hb14 => ?_)
    ·replace h := bif_t hb14 h
     refine c_seq (rg (sa (B false) rfl (w_end (q_then (c_ret (q_blk_r (q_then_r (q_then_r (q_blk_r ?_)))))))))
     obtain rfl := sj h
     obtain rfl := hres _ rfl
     exact .inr (⟨_, rfl, rfl, _, σ13, fr_join ⟨rfl, trivial⟩, rfl, H.sel' [] rfl rfl⟩)
    ·replace h := bif_f hb14 h
     refine c_skip (q_blk (q_then (rg (st (v := (I (w64 (s2 + 1)))) (rv_add (a := s2) (b := 1) rfl rfl) (sm (I (w64 (s2 + 1))) rfl (w_end (q_then ?_)))))))
     obtain rfl := sj h
     exact ⟨_, rfl, _, σ13, fr_join ⟨rfl, rfl, rfl, trivial⟩, rfl, H.sel' [0] rfl rfl⟩
  ·replace h := bif_f hb4 h
   refine c_exit (q_then_x (q_then_x (q_blk_hit ?_)))
   obtain rfl := sj h
   obtain rfl := hres _ rfl
   exact .inl ⟨_, rfl, rfl, _, σ3, fr_join trivial, rfl, H.sel' [] rfl rfl⟩
 ·clear hj
  have h := h'
  clear h' H
  rintro e a w (⟨t15, rfl, rfl, ρ, σ16, rfl, rfl, H⟩ | ⟨t17, rfl, rfl, ρ, σ18, rfl, rfl, H⟩)
  ·replace h := selim_l h
   refine q_then (c_seq (rg (sa (B true) rfl (w_end (q_then (c_ret ?_))))))
   obtain rfl := sj h
   exact fin_ret (v := (B true)) (results_ok Tryz.results38 (res_tmp (v := (B true)) rfl res_nil) rfl) ⟨rfl, rfl⟩ (H.sel' [] rfl rfl)
  ·replace h := selim_r h
   refine q_then_r ?_
   obtain rfl := sj h
   exact fin_ret (v := (B t17)) (results_ok Tryz.results38 (res_tmp (v := (B t17)) rfl res_nil) rfl) ⟨rfl, rfl⟩ (H.sel' [] rfl rfl)

theorem c_impl_ValidVector {Ap : List Int} {Aq : Option Addr} {Ar : Nat} {r : Bool} (h : M.impl_ValidVector Ap = some r) :
    Cal2 Tryz.prog 23 [(Sl Aq Ap Ar)] [Ch.ro 0 (Sl Aq Ap Ar) Ap] (fun n0 v L => v = (B r) ∧ L = []) := by
 refine cal2 (n := 10) Tryz.func23 rfl rfl rfl rfl ?_
 intro S0 σ0 n0 hn0 H
 unfold M.impl_ValidVector at h
 refine c_seq (rg (sa (B false) rfl (w_end (q_then (c_seq (rg (sm (Sl Aq Ap Ar) rfl (st (v := (I (Ap.length : Int))) (rv_len Tryz.underlying23 rfl) (st (v := (B ((Ap.length : Int) == 4))) (rv_eql (a := (Ap.length : Int)) (b := 4) rfl rfl) (sm (B ((Ap.length : Int) == 4)) rfl ?_))))))))))
 rcases Bool.eq_false_or_eq_true ((Ap.length : Int) == 4) with hb1 | hb1
 ·replace h := bif_t hb1 h
  refine st_g (v := (Sl Aq Ap Ar)) (congrArg some hb1) (rv_move rfl) ?_
  revert h; refine br fun r2 hx3 h => ?_
  have hc4 := c_impl_validCoords (Bs := Aq) (Bt := Ar) hx3
  refine st_call (cx_call hc4 (ent_f hc4.fn rfl) hn0 (H.sel' [0, 0] rfl rfl : Hp S0 σ0 _ ([_] ++ _))) (wanted_yes rfl (by exact (congrArg some hb1))) ?_
  rintro _ σ5 ⟨_, ⟨rfl, rfl⟩, H, -⟩
  replace H : Hp _ _ _ [_] := H
  refine st (v := (B r2)) (rv_pick_t (congrArg B hb1) rfl) (sa (B r2) rfl (w_end (q_then (c_ret ?_))))
  obtain rfl := sj h
  exact fin_ret (v := (B r2)) (results_ok Tryz.results23 (res_tmp (v := (B r2)) rfl res_nil) rfl) ⟨rfl, rfl⟩ (H.sel' [] rfl rfl)
 ·replace h := bif_f hb1 h
  refine st_skip (congrArg some hb1) (st_skip (congrArg some hb1) (st (v := (B false)) (rv_pick_f (congrArg B hb1) rfl) (sa (B false) rfl (w_end (q_then (c_ret ?_))))))
  obtain rfl := sj h
  exact fin_ret (v := (B false)) (results_ok Tryz.results23 (res_tmp (v := (B false)) rfl res_nil) rfl) ⟨rfl, rfl⟩ (H.sel' [] rfl rfl)

theorem c_impl_validKey {Bu : Int}  {r : Bool} (h : M.impl_validKey Bu = some r) :
    Cal2 Tryz.prog 62 [(I Bu)] [] (fun n0 v L => v = (B r) ∧ L = []) := by
 refine cal2 (n := 9) Tryz.func62 rfl rfl rfl rfl ?_
 intro S0 σ0 n0 hn0 H
 unfold M.impl_validKey at h
 refine c_seq (rg (sa (B false) rfl (w_end (q_then (c_seq (rg (sm (I Bu) rfl (st (v := (B (decide (1 ≤ Bu)))) (rv_geq (a := Bu) (b := 1) rfl rfl) (sm (B (decide (1 ≤ Bu))) rfl ?_)))))))))
 rcases Bool.eq_false_or_eq_true (decide (1 ≤ Bu)) with hb1 | hb1
 ·replace h := bif_t hb1 h
  refine st_g (v := (I Bu)) (congrArg some hb1) (rv_move rfl) (st_g (v := (B (decide (Bu ≤ 99)))) (congrArg some hb1) (rv_leq (a := Bu) (b := 99) rfl rfl) (st (v := (B (decide (Bu ≤ 99)))) (rv_pick_t (congrArg B hb1) rfl) (sa (B (decide (Bu ≤ 99))) rfl (w_end (q_then (c_ret ?_))))))
  obtain rfl := sj h
  exact fin_ret (v := (B (decide (Bu ≤ 99)))) (results_ok Tryz.results62 (res_tmp (v := (B (decide (Bu ≤ 99)))) rfl res_nil) rfl) ⟨rfl, rfl⟩ (H.sel' [] rfl rfl)
 ·replace h := bif_f hb1 h
  refine st_skip (congrArg some hb1) (st_skip (congrArg some hb1) (st (v := (B false)) (rv_pick_f (congrArg B hb1) rfl) (sa (B false) rfl (w_end (q_then (c_ret ?_))))))
  obtain rfl := sj h
  exact fin_ret (v := (B false)) (results_ok Tryz.results62 (res_tmp (v := (B false)) rfl res_nil) rfl) ⟨rfl, rfl⟩ (H.sel' [] rfl rfl)

theorem c_impl_validTags {Bv : Int}  {r : Bool} (h : M.impl_validTags Bv = some r) :
    Cal2 Tryz.prog 63 [(I Bv)] [] (fun n0 v L => v = (B r) ∧ L = []) := by
 refine cal2 (n := 9) Tryz.func63 rfl rfl rfl rfl ?_
 intro S0 σ0 n0 hn0 H
 unfold M.impl_validTags at h
 refine c_seq (rg (sa (B false) rfl (w_end (q_then (c_seq (rg (sm (I Bv) rfl (st (v := (B (decide (0 ≤ Bv)))) (rv_geq (a := Bv) (b := 0) rfl rfl) (sm (B (decide (0 ≤ Bv))) rfl ?_)))))))))
 rcases Bool.eq_false_or_eq_true (decide (0 ≤ Bv)) with hb1 | hb1
 ·replace h := bif_t hb1 h
  refine st_g (v := (I Bv)) (congrArg some hb1) (rv_move rfl) (st_g (v := (B (decide (Bv ≤ 15)))) (congrArg some hb1) (rv_leq (a := Bv) (b := 15) rfl rfl) (st (v := (B (decide (Bv ≤ 15)))) (rv_pick_t (congrArg B hb1) rfl) (sa (B (decide (Bv ≤ 15))) rfl (w_end (q_then (c_ret ?_))))))
  obtain rfl := sj h
  exact fin_ret (v := (B (decide (Bv ≤ 15)))) (results_ok Tryz.results63 (res_tmp (v := (B (decide (Bv ≤ 15)))) rfl res_nil) rfl) ⟨rfl, rfl⟩ (H.sel' [] rfl rfl)
 ·replace h := bif_f hb1 h
  refine st_skip (congrArg some hb1) (st_skip (congrArg some hb1) (st (v := (B false)) (rv_pick_f (congrArg B hb1) rfl) (sa (B false) rfl (w_end (q_then (c_ret ?_))))))
  obtain rfl := sj h
  exact fin_ret (v := (B false)) (results_ok Tryz.results63 (res_tmp (v := (B false)) rfl res_nil) rfl) ⟨rfl, rfl⟩ (H.sel' [] rfl rfl)

theorem c_impl_validItem {As : Int × (List Int) × Int} {Au : Option Addr} {Av : Nat} {r : Bool} (h : M.impl_validItem As = some r) :
    Cal2 Tryz.prog 53 [(.agg #[(I As.1), (Sl Au As.2.1 Av), (I As.2.2)])] [Ch.ro 0 (Sl Au As.2.1 Av) As.2.1] (fun n0 v L => v = (B r) ∧ L = []) := by
 refine cal2 (n := 16) Tryz.func53 rfl rfl rfl rfl ?_
 intro S0 σ0 n0 hn0 H
 unfold M.impl_validItem at h
 refine c_seq (rg (st_ex (ex_box (cs := [(I As.1), (Sl Au As.2.1 Av), (I As.2.2)]) H hn0 rfl rfl) wn ?_))
 rintro _ σ2 ⟨b1, rfl, H, -⟩
 refine sa (B false) rfl (w_end (q_then (c_seq (rg (st (v := (pt b1 0)) (rv_fieldAddr (off := 0) (ft := 3) Tryz.underlying45 rfl ti3 rfl rfl) ?_)))))
 have hc3 := H.cell (u := (I As.1)) (o' := 0) 0 0 rfl rfl rfl
 refine st (v := (I As.1)) (rv_load1 Tryz.underlying3 rfl rfl hc3) ?_
 revert h; refine br fun r4 hx5 h => ?_
 have hc6 := c_impl_validKey hx5
 refine st_call (cx_call hc6 (ent_f hc6.fn rfl) hn0 (H.sel' [0, 1] rfl rfl : Hp S0 σ0 _ ([] ++ _))) wn ?_
 rintro _ σ7 ⟨_, ⟨rfl, rfl⟩, H, -⟩
 replace H : Hp _ _ _ [_, _] := H
 refine sm (B r4) rfl ?_
 rcases Bool.eq_false_or_eq_true r4 with hb8 | hb8
 ·replace h := bif_t hb8 h
  refine st_g (v := (pt b1 1)) (congrArg some hb8) (rv_fieldAddr (off := 1) (ft := 23) Tryz.underlying45 rfl ti23 rfl rfl) ?_
  have hc9 := H.cell (u := (Sl Au As.2.1 Av)) (o' := 1) 0 1 rfl rfl rfl
  refine st_g (v := (Sl Au As.2.1 Av)) (congrArg some hb8) (rv_load1 Tryz.underlying23 rfl rfl hc9) ?_
  revert h; refine br fun r10 hx11 h => ?_
  have hc12 := c_impl_ValidVector (Aq := Au) (Ar := Av) hx11
  refine st_call (cx_call hc12 (ent_f hc12.fn rfl) hn0 (H.sel' [1, 0, 1] rfl rfl : Hp S0 σ0 _ ([_] ++ _))) (wanted_yes rfl (by exact (congrArg some hb8))) ?_
  rintro _ σ13 ⟨_, ⟨rfl, rfl⟩, H, -⟩
  replace H : Hp _ _ _ [_, _] := H
  refine st (v := (B r10)) (rv_pick_t (congrArg B hb8) rfl) (sm (B r10) rfl ?_)
  rcases Bool.eq_false_or_eq_true r10 with hb14 | hb14
  ·replace h := bif_t hb14 h
   refine st_g (v := (pt b1 2)) (congrArg some hb14) (rv_fieldAddr (off := 2) (ft := 3) Tryz.underlying45 rfl ti3 rfl rfl) ?_
   have hc15 := H.cell (u := (I As.2.2)) (o' := 2) 0 2 rfl rfl rfl
   refine st_g (v := (I As.2.2)) (congrArg some hb14) (rv_load1 Tryz.underlying3 rfl rfl hc15) ?_
   revert h; refine br fun r16 hx17 h => ?_
   have hc18 := c_impl_validTags hx17
   refine st_call (cx_call hc18 (ent_f hc18.fn rfl) hn0 (H.sel' [0, 1] rfl rfl : Hp S0 σ0 _ ([] ++ _))) (wanted_yes rfl (by exact (congrArg some hb14))) ?_
   rintro _ σ19 ⟨_, ⟨rfl, rfl⟩, H, -⟩
   replace H : Hp _ _ _ [_, _] := H
   refine st (v := (B r16)) (rv_pick_t (congrArg B hb14) rfl) (sa (B r16) rfl (w_end (q_then (c_ret ?_))))
   obtain rfl := sj h
   exact fin_ret (v := (B r16)) (results_ok Tryz.results53 (res_tmp (v := (B r16)) rfl res_nil) rfl) ⟨rfl, rfl⟩ (H.sel' [] rfl rfl)
  ·replace h := bif_f hb14 h
   refine st_skip (congrArg some hb14) (st_skip (congrArg some hb14) (st_skip (congrArg some hb14) (st (v := (B false)) (rv_pick_f (congrArg B hb14) rfl) (sa (B false) rfl (w_end (q_then (c_ret ?_)))))))
   obtain rfl := sj h
   exact fin_ret (v := (B false)) (results_ok Tryz.results53 (res_tmp (v := (B false)) rfl res_nil) rfl) ⟨rfl, rfl⟩ (H.sel' [] rfl rfl)
 ·replace h := bif_f hb8 h
  refine st_skip (congrArg some hb8) (st_skip (congrArg some hb8) (st_skip (congrArg some hb8) (st (v := (B false)) (rv_pick_f (congrArg B hb8) rfl) (sm (B false) rfl (st_skip rfl (st_skip rfl (st_skip rfl (st (v := (B false)) (rv_pick_f rfl rfl) (sa (B false) rfl (w_end (q_then ?_)))))))))))
  refine c_ret ?_
  obtain rfl := sj h
  exact fin_ret (v := (B false)) (results_ok Tryz.results53 (res_tmp (v := (B false)) rfl res_nil) rfl) ⟨rfl, rfl⟩ (H.sel' [] rfl rfl)

theorem c_impl_ValidStore {Ak : List (Int × (List Int) × Int)} {Am : Option Addr} {Ao : Nat} {r : Bool} (h : M.impl_ValidStore Ak = some r) :
    Cal2 Tryz.prog 36 [(Sl Am Ak Ao)] [Ch.ro 0 (Sl Am Ak Ao) Ak] (fun n0 v L => v = (B r) ∧ L = []) := by
 refine cal2 (n := 27) Tryz.func36 rfl rfl rfl rfl ?_
 intro S0 σ0 n0 hn0 H
 unfold M.impl_ValidStore at h
 refine c_seq (rg (sa (B false) rfl (w_end (q_then (c_seq (c_seq (rg (sm (Sl Am Ak Ao) rfl (st (v := (I (Ak.length : Int))) (rv_len Tryz.underlying27 rfl) (st (v := (B (decide (16 < (Ak.length : Int))))) (rv_gtr (a := (Ak.length : Int)) (b := 16) rfl rfl) (w_end ?_)))))))))))
 refine q_then ?_
 refine cd_cond (decide (16 < (Ak.length : Int))) rfl (fun hb1 => ?_) (fun hb1 => ?_)
 ·replace h := bif_t hb1 h
  refine c_seq (rg (sa (B false) rfl (w_end (q_then (c_ret (q_then_r ?_))))))
  obtain rfl := sj h
  exact fin_ret (v := (B false)) (results_ok Tryz.results36 (res_tmp (v := (B false)) rfl res_nil) rfl) ⟨rfl, rfl⟩ (H.sel' [] rfl rfl)
 ·replace h := bif_f hb1 h
  refine c_skip (q_then (c_seq (rg (sa (I 0) rfl (w_end (q_then (c_seq (c_seq (rg (sm (Sl Am Ak Ao) rfl (st (v := (I (Ak.length : Int))) (rv_len Tryz.underlying27 rfl) ?_)))))))))))
  refine sm (I 0) rfl (w_end (q_then ?_))
  obtain ⟨o2, hj, h'⟩ := bind_some h
  clear h
  refine c_cut (fun e a w => (∃ t, o2 = (.inl t) ∧ e = .normal ∧ ∃ (ρ : Nat → Value) (σ : St), a = fr 27 (updL ρ []) ∧ w = σ.w ∧ Hp S0 σ0 σ []) ∨ (∃ t, o2 = (.inr t) ∧ e = .ret ∧ ∃ (ρ : Nat → Value) (σ : St), a = fr 27 (updL ρ [(2, (B t))]) ∧ w = σ.w ∧ Hp S0 σ0 σ [])) ?_ ?_
  ·clear h'
   rename _ = some o2 => h
   refine c_blk (wp_loopM _ h (fun s3 a w => ∃ (ρ : Nat → Value) (σ : St), a = fr 27 (updL ρ [(3, (I s3.1)), (9, (Sl Am Ak Ao)), (10, (I (Ak.length : Int))), (11, (I s3.2))]) ∧ w = σ.w ∧ Hp S0 σ0 σ [Ch.ro 0 (Sl Am Ak Ao) Ak]) ⟨_, σ0, fr_join ⟨rfl, rfl, rfl, rfl, trivial⟩, rfl, H.sel' [0] rfl rfl⟩ ?_)
   clear h H
   rintro s3 a w o ⟨ρ, σ4, rfl, rfl, H⟩ h hres
   refine c_seq (rg (st (v := (B (decide (s3.2 < (Ak.length : Int))))) (rv_lss (a := s3.2) (b := (Ak.length : Int)) rfl rfl) (w_end (q_then (c_seq ?_)))))
   refine cd_cond (decide (s3.2 < (Ak.length : Int))) rfl (fun hb5 => ?_) (fun hb5 => ?_)
   ·replace h := bif_t hb5 h
    refine c_skip (q_then (c_seq (c_blk (c_seq (rg ?_)))))
    revert h; refine br fun x6 hx7 h => ?_
    obtain ⟨b9, o10, hi8, -⟩ := (H.ro 0 rfl).ix hx7
    refine st (v := (pt b9 o10)) (rv_ix Tryz.underlying27 ti45 rfl rfl hi8) ?_
    obtain ⟨_, ⟨_, _, rfl, rfl, ⟨_, _, rfl, ⟨_, rfl, hR15⟩, rfl⟩⟩, hl11, hc12⟩ := ((H.ro 0 rfl).at hx7 hi8).cells
    obtain ⟨a13, c14, rfl⟩ := hR15.isSl
    replace H := H.add (d := Ch.ro 0 (Sl a13 x6.2.1 c14) x6.2.1) hR15 (fun _ h => h)
    clear hR15
    refine st (v := (.agg #[(I x6.1), (Sl a13 x6.2.1 c14), (I x6.2.2)])) (rv_load Tryz.underlying45 rfl ti45 rfl hl11 hc12) (st_ex (ex_alloc (cs := [(I 0), (.slice none 0 0), (I 0)]) H hn0 ti45 rfl) wn ?_)
    rintro _ σ17 ⟨b16, rfl, H, -⟩
    refine st_exS (ex_store_box (k := 0) (cs := [(I 0), (.slice none 0 0), (I 0)]) (vs := [(I x6.1), (Sl a13 x6.2.1 c14), (I x6.2.2)]) (cs' := [(I x6.1), (Sl a13 x6.2.1 c14), (I x6.2.2)]) H (i := 0) rfl ti45 rfl rfl rfl rfl rfl (Nat.le_of_ble_eq_true rfl) (by simp [plain]) rfl) wn ?_
    rintro σ18 ⟨H, -⟩
    refine w_end (q_then (c_seq (c_seq ?_)))
    obtain ⟨o19, hj, h'⟩ := bind_some h
    clear h
    refine c_cut (fun e a w => e = .normal ∧ ∃ (ρ : Nat → Value) (σ : St), a = fr 27 (updL ρ [(5, (pt b16 0)), (9, (Sl Am Ak Ao)), (10, (I (Ak.length : Int))), (11, (I s3.2)), (23, (B o19))]) ∧ w = σ.w ∧ Hp S0 σ0 σ [Ch.ro 0 (Sl a13 x6.2.1 c14) x6.2.1, Ch.bx n0 b16 0 [(I x6.1), (Sl a13 x6.2.1 c14), (I x6.2.2)] [] [], Ch.ro 0 (Sl Am Ak Ao) Ak]) ?_ ?_
    ·clear h'
     rename _ = some o19 => h
     refine rg ?_
     have hc20 := H.cells 0 rfl
     refine st (v := (.agg #[(I x6.1), (Sl a13 x6.2.1 c14), (I x6.2.2)])) (rv_load (cs := [(I x6.1), (Sl a13 x6.2.1 c14), (I x6.2.2)]) Tryz.underlying45 rfl ti45 rfl rfl hc20) ?_
     revert h; refine br fun r21 hx22 h => ?_
     have hc23 := c_impl_validItem (Au := a13) (Av := c14) hx22
     refine st_call (cx_call hc23 (ent_f hc23.fn rfl) hn0 (H.sel' [1, 0, 1, 2] rfl rfl : Hp S0 σ0 _ ([_] ++ _))) wn ?_
     rintro _ σ24 ⟨_, ⟨rfl, rfl⟩, H, -⟩
     replace H : Hp _ _ _ [_, _, _] := H
     refine st (v := (B (!r21))) (rv_not rfl) (sm (B (!r21)) rfl ?_)
     rcases Bool.eq_false_or_eq_true (!r21) with hb25 | hb25
     ·replace h := bif_t hb25 h
      refine st_skip (congrArg some hb25) (st_skip (congrArg some hb25) (st_skip (congrArg some hb25) (st_skip (congrArg some hb25) (st (v := (B true)) (rv_pick_t (congrArg B hb25) rfl) (w_end ?_)))))
      obtain rfl := sj h
      exact ⟨rfl, _, σ24, fr_join ⟨rfl, rfl, rfl, rfl, rfl, trivial⟩, rfl, H.sel' [1, 0, 2] rfl rfl⟩
     ·replace h := bif_f hb25 h
      refine st_g (v := (pt b16 0)) (congrArg some hb25) (rv_fieldAddr (off := 0) (ft := 3) Tryz.underlying45 rfl ti3 rfl rfl) ?_
      have hc26 := H.cell (u := (I x6.1)) (o' := 0) 0 0 rfl rfl rfl
      refine st_g (v := (I x6.1)) (congrArg some hb25) (rv_load1 Tryz.underlying3 rfl rfl hc26) (st_g (v := (I s3.1)) (congrArg some hb25) (rv_move rfl) (st_g (v := (B (decide (x6.1 ≤ s3.1)))) (congrArg some hb25) (rv_leq (a := x6.1) (b := s3.1) rfl rfl) (st (v := (B (decide (x6.1 ≤ s3.1)))) (rv_pick_f (congrArg B hb25) rfl) (w_end ?_))))
      obtain rfl := sj h
      exact ⟨rfl, _, σ24, fr_join ⟨rfl, rfl, rfl, rfl, rfl, trivial⟩, rfl, H.sel' [1, 0, 2] rfl rfl⟩
    ·clear hj
     have h := h'
     clear h' H
     rintro e a w ⟨rfl, ρ, σ27, rfl, rfl, H⟩
     refine q_then ?_
     refine cd_cond o19 rfl (fun hb28 => ?_) (fun hb28 => ?_)
     ·replace h := bif_t hb28 h
      refine c_seq (rg (sa (B false) rfl (w_end (q_then (c_ret (q_then_r (q_blk_r (q_then_r (q_then_r (q_blk_r ?_))))))))))
      obtain rfl := sj h
      obtain rfl := hres _ rfl
      exact .inr (⟨_, rfl, rfl, _, σ27, fr_join ⟨rfl, trivial⟩, rfl, H.sel' [] rfl rfl⟩)
     ·replace h := bif_f hb28 h
      refine c_skip (q_then (rg (st (v := (pt b16 0)) (rv_fieldAddr (off := 0) (ft := 3) Tryz.underlying45 rfl ti3 rfl rfl) ?_)))
      have hc29 := H.cell (u := (I x6.1)) (o' := 0) 1 0 rfl rfl rfl
      refine st (v := (I x6.1)) (rv_load1 Tryz.underlying3 rfl rfl hc29) (sa (I x6.1) rfl (w_end (q_blk (q_then (rg (st (v := (I (w64 (s3.2 + 1)))) (rv_add (a := s3.2) (b := 1) rfl rfl) (sm (I (w64 (s3.2 + 1))) rfl (w_end (q_then ?_)))))))))
      obtain rfl := sj h
      exact ⟨_, rfl, _, σ27, fr_join ⟨rfl, rfl, rfl, rfl, trivial⟩, rfl, H.sel' [2] rfl rfl⟩
   ·replace h := bif_f hb5 h
    refine c_exit (q_then_x (q_then_x (q_blk_hit ?_)))
    obtain rfl := sj h
    obtain rfl := hres _ rfl
    exact .inl ⟨_, rfl, rfl, _, σ4, fr_join trivial, rfl, H.sel' [] rfl rfl⟩
  ·clear hj
   have h := h'
   clear h' H
   rintro e a w (⟨t30, rfl, rfl, ρ, σ31, rfl, rfl, H⟩ | ⟨t32, rfl, rfl, ρ, σ33, rfl, rfl, H⟩)
   ·replace h := selim_l h
    refine q_then (c_seq (rg (sa (B true) rfl (w_end (q_then (c_ret ?_))))))
    obtain rfl := sj h
    exact fin_ret (v := (B true)) (results_ok Tryz.results36 (res_tmp (v := (B true)) rfl res_nil) rfl) ⟨rfl, rfl⟩ (H.sel' [] rfl rfl)
   ·replace h := selim_r h
    refine q_then_r ?_
    obtain rfl := sj h
    exact fin_ret (v := (B t32)) (results_ok Tryz.results36 (res_tmp (v := (B t32)) rfl res_nil) rfl) ⟨rfl, rfl⟩ (H.sel' [] rfl rfl)

theorem c_impl_validKind {Aw : Int}  {r : Bool} (h : M.impl_validKind Aw = some r) :
    Cal2 Tryz.prog 37 [(I Aw)] [] (fun n0 v L => v = (B r) ∧ L = []) := by
 refine cal2 (n := 9) Tryz.func37 rfl rfl rfl rfl ?_
 intro S0 σ0 n0 hn0 H
 unfold M.impl_validKind at h
 refine c_seq (rg (sa (B false) rfl (w_end (q_then (c_seq (rg (sm (I Aw) rfl (st (v := (B (decide (1 ≤ Aw)))) (rv_geq (a := Aw) (b := 1) rfl rfl) (sm (B (decide (1 ≤ Aw))) rfl ?_)))))))))
 rcases Bool.eq_false_or_eq_true (decide (1 ≤ Aw)) with hb1 | hb1
 ·replace h := bif_t hb1 h
  refine st_g (v := (I Aw)) (congrArg some hb1) (rv_move rfl) (st_g (v := (B (decide (Aw ≤ 4)))) (congrArg some hb1) (rv_leq (a := Aw) (b := 4) rfl rfl) (st (v := (B (decide (Aw ≤ 4)))) (rv_pick_t (congrArg B hb1) rfl) (sa (B (decide (Aw ≤ 4))) rfl (w_end (q_then (c_ret ?_))))))
  obtain rfl := sj h
  exact fin_ret (v := (B (decide (Aw ≤ 4)))) (results_ok Tryz.results37 (res_tmp (v := (B (decide (Aw ≤ 4)))) rfl res_nil) rfl) ⟨rfl, rfl⟩ (H.sel' [] rfl rfl)
 ·replace h := bif_f hb1 h
  refine st_skip (congrArg some hb1) (st_skip (congrArg some hb1) (st (v := (B false)) (rv_pick_f (congrArg B hb1) rfl) (sa (B false) rfl (w_end (q_then (c_ret ?_))))))
  obtain rfl := sj h
  exact fin_ret (v := (B false)) (results_ok Tryz.results37 (res_tmp (v := (B false)) rfl res_nil) rfl) ⟨rfl, rfl⟩ (H.sel' [] rfl rfl)

theorem c_impl_validLinks {Ak : List (Int × (List Int) × Int)} {Ax : Int} {Bm : Int} {Am : Option Addr} {Ao : Nat} {r : Bool} (h : M.impl_validLinks Ak Ax Bm = some r) :
    Cal2 Tryz.prog 22 [(Sl Am Ak Ao), (I Ax), (I Bm)] [Ch.ro 0 (Sl Am Ak Ao) Ak] (fun n0 v L => v = (B r) ∧ L = []) := by
 refine cal2 (n := 21) Tryz.func22 rfl rfl rfl rfl ?_
 intro S0 σ0 n0 hn0 H
 unfold M.impl_validLinks at h
 refine c_seq (rg (sa (B false) rfl (w_end (q_then (c_seq (rg (sm (Sl Am Ak Ao) rfl ?_)))))))
 revert h; refine br fun r1 hx2 h => ?_
 have hc3 := c_impl_ValidStore (Am := Am) (Ao := Ao) hx2
 refine st_call (cx_call hc3 (ent_f hc3.fn rfl) hn0 (H.sel' [0, 0] rfl rfl : Hp S0 σ0 _ ([_] ++ _))) wn ?_
 rintro _ σ4 ⟨_, ⟨rfl, rfl⟩, H, -⟩
 replace H : Hp _ _ _ [_] := H
 refine sm (B r1) rfl ?_
 rcases Bool.eq_false_or_eq_true r1 with hb5 | hb5
 ·replace h := bif_t hb5 h
  refine st_g (v := (I Ax)) (congrArg some hb5) (rv_move rfl) ?_
  revert h; refine br fun r6 hx7 h => ?_
  have hc8 := c_impl_validKind hx7
  refine st_call (cx_call hc8 (ent_f hc8.fn rfl) hn0 (H.sel' [0] rfl rfl : Hp S0 σ0 _ ([] ++ _))) (wanted_yes rfl (by exact (congrArg some hb5))) ?_
  rintro _ σ9 ⟨_, ⟨rfl, rfl⟩, H, -⟩
  replace H : Hp _ _ _ [_] := H
  refine st (v := (B r6)) (rv_pick_t (congrArg B hb5) rfl) (sm (B r6) rfl ?_)
  rcases Bool.eq_false_or_eq_true r6 with hb10 | hb10
  ·replace h := bif_t hb10 h
   refine st_g (v := (I Bm)) (congrArg some hb10) (rv_move rfl) (st_g (v := (B (decide (1 ≤ Bm)))) (congrArg some hb10) (rv_geq (a := Bm) (b := 1) rfl rfl) (st (v := (B (decide (1 ≤ Bm)))) (rv_pick_t (congrArg B hb10) rfl) (sm (B (decide (1 ≤ Bm))) rfl ?_)))
   rcases Bool.eq_false_or_eq_true (decide (1 ≤ Bm)) with hb11 | hb11
   ·replace h := bif_t hb11 h
    refine st_g (v := (I Bm)) (congrArg some hb11) (rv_move rfl) (st_g (v := (B (decide (Bm ≤ 5)))) (congrArg some hb11) (rv_leq (a := Bm) (b := 5) rfl rfl) (st (v := (B (decide (Bm ≤ 5)))) (rv_pick_t (congrArg B hb11) rfl) (sa (B (decide (Bm ≤ 5))) rfl (w_end (q_then (c_ret ?_))))))
    obtain rfl := sj h
    exact fin_ret (v := (B (decide (Bm ≤ 5)))) (results_ok Tryz.results22 (res_tmp (v := (B (decide (Bm ≤ 5)))) rfl res_nil) rfl) ⟨rfl, rfl⟩ (H.sel' [] rfl rfl)
   ·replace h := bif_f hb11 h
    refine st_skip (congrArg some hb11) (st_skip (congrArg some hb11) (st (v := (B false)) (rv_pick_f (congrArg B hb11) rfl) (sa (B false) rfl (w_end (q_then (c_ret ?_))))))
    obtain rfl := sj h
    exact fin_ret (v := (B false)) (results_ok Tryz.results22 (res_tmp (v := (B false)) rfl res_nil) rfl) ⟨rfl, rfl⟩ (H.sel' [] rfl rfl)
  ·replace h := bif_f hb10 h
   refine st_skip (congrArg some hb10) (st_skip (congrArg some hb10) (st (v := (B false)) (rv_pick_f (congrArg B hb10) rfl) (sm (B false) rfl (st_skip rfl (st_skip rfl (st (v := (B false)) (rv_pick_f rfl rfl) (sa (B false) rfl (w_end (q_then (c_ret ?_))))))))))
   obtain rfl := sj h
   exact fin_ret (v := (B false)) (results_ok Tryz.results22 (res_tmp (v := (B false)) rfl res_nil) rfl) ⟨rfl, rfl⟩ (H.sel' [] rfl rfl)
 ·replace h := bif_f hb5 h
  refine st_skip (congrArg some hb5) (st_skip (congrArg some hb5) (st (v := (B false)) (rv_pick_f (congrArg B hb5) rfl) (sm (B false) rfl (st_skip rfl (st_skip rfl (st (v := (B false)) (rv_pick_f rfl rfl) (sm (B false) rfl (st_skip rfl (st_skip rfl (st (v := (B false)) (rv_pick_f rfl rfl) (sa (B false) rfl ?_)))))))))))
  refine w_end (q_then (c_ret ?_))
  obtain rfl := sj h
  exact fin_ret (v := (B false)) (results_ok Tryz.results22 (res_tmp (v := (B false)) rfl res_nil) rfl) ⟨rfl, rfl⟩ (H.sel' [] rfl rfl)

theorem c_cmp_isNaN_int {As : Int}  {r : Bool} (h : M.cmp_isNaN_int As = some r) :
    Cal2 Tryz.prog 54 [(I As)] [] (fun n0 v L => v = (B r) ∧ L = []) := by
 refine cal2 (n := 6) Tryz.func54 rfl rfl rfl rfl ?_
 intro S0 σ0 n0 hn0 H
 unfold M.cmp_isNaN_int at h
 refine c_seq (rg (sa (B false) rfl (w_end (q_then (c_seq (rg (sm (I As) rfl (sm (I As) rfl (st (v := (B (As != As))) (rv_neq (a := As) (b := As) rfl rfl) (sa (B (As != As)) rfl (w_end ?_)))))))))))
 refine q_then (c_ret ?_)
 obtain rfl := sj h
 exact fin_ret (v := (B (As != As))) (results_ok Tryz.results54 (res_tmp (v := (B (As != As))) rfl res_nil) rfl) ⟨rfl, rfl⟩ (H.sel' [] rfl rfl)

theorem c_cmp_Compare_int {As : Int} {Bw : Int}  {r : Int} (h : M.cmp_Compare_int As Bw = some r) :
    Cal2 Tryz.prog 41 [(I As), (I Bw)] [] (fun n0 v L => v = (I r) ∧ L = []) := by
 refine cal2 (n := 20) Tryz.func41 rfl rfl rfl rfl ?_
 intro S0 σ0 n0 hn0 H
 unfold M.cmp_Compare_int at h
 refine c_seq (rg (sa (I 0) rfl (w_end (q_then (c_seq (rg (sm (I As) rfl ?_)))))))
 revert h; refine br fun r1 hx2 h => ?_
 have hc3 := c_cmp_isNaN_int hx2
 refine st_call (cx_call hc3 (ent_f hc3.fn rfl) hn0 (H.sel' [] rfl rfl : Hp S0 σ0 _ ([] ++ _))) wn ?_
 rintro _ σ4 ⟨_, ⟨rfl, rfl⟩, H, -⟩
 replace H : Hp _ _ _ [] := H
 refine sa (B r1) rfl (w_end (q_then (c_seq (rg (sm (I Bw) rfl ?_)))))
 revert h; refine br fun r5 hx6 h => ?_
 have hc7 := c_cmp_isNaN_int hx6
 refine st_call (cx_call hc7 (ent_f hc7.fn rfl) hn0 (H.sel' [] rfl rfl : Hp S0 σ0 _ ([] ++ _))) wn ?_
 rintro _ σ8 ⟨_, ⟨rfl, rfl⟩, H, -⟩
 replace H : Hp _ _ _ [] := H
 refine sa (B r5) rfl (w_end (q_then (c_seq (c_seq (rg (sm (B r1) rfl (w_end (q_then ?_))))))))
 refine cd_cond r1 rfl (fun hb9 => ?_) (fun hb9 => ?_)
 ·replace h := bif_t hb9 h
  refine c_seq (c_seq (rg (sm (B r5) rfl (w_end (q_then ?_)))))
  refine cd_cond r5 rfl (fun hb10 => ?_) (fun hb10 => ?_)
  ·replace h := bif_t hb10 h
   refine c_seq (rg (sa (I 0) rfl (w_end (q_then (c_ret (q_then_r (q_then_r ?_)))))))
   obtain rfl := sj h
   exact fin_ret (v := (I 0)) (results_ok Tryz.results41 (res_tmp (v := (I 0)) rfl res_nil) rfl) ⟨rfl, rfl⟩ (H.sel' [] rfl rfl)
  ·replace h := bif_f hb10 h
   refine c_skip (q_then (c_seq (rg (sa (I (-1)) rfl (w_end (q_then (c_ret (q_then_r ?_))))))))
   obtain rfl := sj h
   exact fin_ret (v := (I (-1))) (results_ok Tryz.results41 (res_tmp (v := (I (-1))) rfl res_nil) rfl) ⟨rfl, rfl⟩ (H.sel' [] rfl rfl)
 ·replace h := bif_f hb9 h
  refine c_skip (q_then (c_seq (c_seq (rg (sm (B r5) rfl (w_end (q_then ?_)))))))
  refine cd_cond r5 rfl (fun hb11 => ?_) (fun hb11 => ?_)
  ·replace h := bif_t hb11 h
   refine c_seq (rg (sa (I 1) rfl (w_end (q_then (c_ret (q_then_r ?_))))))
   obtain rfl := sj h
   exact fin_ret (v := (I 1)) (results_ok Tryz.results41 (res_tmp (v := (I 1)) rfl res_nil) rfl) ⟨rfl, rfl⟩ (H.sel' [] rfl rfl)
  ·replace h := bif_f hb11 h
   refine c_skip (q_then (c_seq (c_seq (rg (sm (I As) rfl (sm (I Bw) rfl (st (v := (B (decide (As < Bw)))) (rv_lss (a := As) (b := Bw) rfl rfl) (w_end (q_then ?_)))))))))
   refine cd_cond (decide (As < Bw)) rfl (fun hb12 => ?_) (fun hb12 => ?_)
   ·replace h := bif_t hb12 h
    refine c_seq (rg (sa (I (-1)) rfl (w_end (q_then (c_ret (q_then_r ?_))))))
    obtain rfl := sj h
    exact fin_ret (v := (I (-1))) (results_ok Tryz.results41 (res_tmp (v := (I (-1))) rfl res_nil) rfl) ⟨rfl, rfl⟩ (H.sel' [] rfl rfl)
   ·replace h := bif_f hb12 h
    refine c_skip (q_then (c_seq (c_seq (rg (sm (I As) rfl (sm (I Bw) rfl (st (v := (B (decide (Bw < As)))) (rv_gtr (a := As) (b := Bw) rfl rfl) (w_end (q_then ?_)))))))))
    refine cd_cond (decide (Bw < As)) rfl (fun hb13 => ?_) (fun hb13 => ?_)
    ·replace h := bif_t hb13 h
     refine c_seq (rg (sa (I 1) rfl (w_end (q_then (c_ret (q_then_r ?_))))))
     obtain rfl := sj h
     exact fin_ret (v := (I 1)) (results_ok Tryz.results41 (res_tmp (v := (I 1)) rfl res_nil) rfl) ⟨rfl, rfl⟩ (H.sel' [] rfl rfl)
    ·replace h := bif_f hb13 h
     refine c_skip (q_then (c_seq (rg (sa (I 0) rfl (w_end (q_then (c_ret ?_)))))))
     obtain rfl := sj h
     exact fin_ret (v := (I 0)) (results_ok Tryz.results41 (res_tmp (v := (I 0)) rfl res_nil) rfl) ⟨rfl, rfl⟩ (H.sel' [] rfl rfl)

theorem c_impl_placeOf_1 {As : Int × (List Int) × Int} {Bb : Int} {Au : Option Addr} {Av : Nat} {r : Int} (h : M.impl_placeOf_1 As Bb = some r) :
    Cal2 Tryz.prog 40 [(.agg #[(I As.1), (Sl Au As.2.1 Av), (I As.2.2)]), (I Bb)] [Ch.ro 0 (Sl Au As.2.1 Av) As.2.1] (fun n0 v L => v = (I r) ∧ L = []) := by
 refine cal2 (n := 9) Tryz.func40 rfl rfl rfl rfl ?_
 intro S0 σ0 n0 hn0 H
 unfold M.impl_placeOf_1 at h
 refine c_seq (rg (st_ex (ex_box (cs := [(I As.1), (Sl Au As.2.1 Av), (I As.2.2)]) H hn0 rfl rfl) wn ?_))
 rintro _ σ2 ⟨b1, rfl, H, -⟩
 refine sa (I 0) rfl (w_end (q_then (c_seq (rg (st (v := (pt b1 0)) (rv_fieldAddr (off := 0) (ft := 3) Tryz.underlying45 rfl ti3 rfl rfl) ?_)))))
 have hc3 := H.cell (u := (I As.1)) (o' := 0) 0 0 rfl rfl rfl
 refine st (v := (I As.1)) (rv_load1 Tryz.underlying3 rfl rfl hc3) (sm (I Bb) rfl ?_)
 revert h; refine br fun r4 hx5 h => ?_
 have hc6 := c_cmp_Compare_int hx5
 refine st_call (cx_call hc6 (ent_f hc6.fn rfl) hn0 (H.sel' [0, 1] rfl rfl : Hp S0 σ0 _ ([] ++ _))) wn ?_
 rintro _ σ7 ⟨_, ⟨rfl, rfl⟩, H, -⟩
 replace H : Hp _ _ _ [_, _] := H
 refine sa (I r4) rfl (w_end (q_then (c_ret ?_)))
 obtain rfl := sj h
 exact fin_ret (v := (I r4)) (results_ok Tryz.results40 (res_tmp (v := (I r4)) rfl res_nil) rfl) ⟨rfl, rfl⟩ (H.sel' [] rfl rfl)

theorem c_slices_BinarySearchFunc_impl_Item_impl_Item_int__impl_placeOf_1 {As : List (Int × (List Int) × Int)} {By : Int} {Bz : Option Addr} {Ca : Nat} {r : Int × Bool} (h : M.slices_BinarySearchFunc_impl_Item_impl_Item_int__impl_placeOf_1 As By = some r) :
    Cal2 Tryz.prog 39 [(Sl Bz As Ca), (I By), (.func (.func 40) #[] #[])] [Ch.ro 0 (Sl Bz As Ca) As] (fun n0 v L => v = (.tuple #[(I r.1), (B r.2)]) ∧ L = []) := by
 refine cal2 (n := 49) Tryz.func39 rfl rfl rfl rfl ?_
 intro S0 σ0 n0 hn0 H
 unfold M.slices_BinarySearchFunc_impl_Item_impl_Item_int__impl_placeOf_1 at h
 refine c_seq (rg (sa (I 0) rfl (sa (B false) rfl (w_end (q_then (c_seq (rg (sm (Sl Bz As Ca) rfl (st (v := (I (As.length : Int))) (rv_len Tryz.underlying27 rfl) (sa (I (As.length : Int)) rfl (w_end ?_)))))))))))
 refine q_then (c_seq (rg (sm (I (As.length : Int)) rfl (sa (I 0) rfl (sa (I (As.length : Int)) rfl (w_end (q_then (c_seq ?_))))))))
 obtain ⟨o1, hj, h'⟩ := bind_some h
 clear h
 refine c_cut (fun e a w => e = .normal ∧ ∃ (ρ : Nat → Value) (σ : St), a = fr 49 (updL ρ [(0, (Sl Bz As Ca)), (1, (I By)), (2, (.func (.func 40) #[] #[])), (8, (I (As.length : Int))), (9, (I o1))]) ∧ w = σ.w ∧ Hp S0 σ0 σ [Ch.ro 0 (Sl Bz As Ca) As]) ?_ ?_
 ·clear h'
  rename _ = some o1 => h
  refine c_blk (wp_loopM _ h (fun s2 a w => ∃ (ρ : Nat → Value) (σ : St), a = fr 49 (updL ρ [(0, (Sl Bz As Ca)), (1, (I By)), (2, (.func (.func 40) #[] #[])), (8, (I (As.length : Int))), (9, (I s2.1)), (10, (I s2.2))]) ∧ w = σ.w ∧ Hp S0 σ0 σ [Ch.ro 0 (Sl Bz As Ca) As]) ⟨_, σ0, fr_join ⟨rfl, rfl, rfl, rfl, rfl, rfl, trivial⟩, rfl, H.sel' [0] rfl rfl⟩ ?_)
  clear h H
  rintro s2 a w o ⟨ρ, σ3, rfl, rfl, H⟩ h hres
  refine c_seq (c_seq (rg (sm (I s2.1) rfl (sm (I s2.2) rfl (st (v := (B (decide (s2.1 < s2.2)))) (rv_lss (a := s2.1) (b := s2.2) rfl rfl) (w_end (q_then ?_)))))))
  refine cd_cond (decide (s2.1 < s2.2)) rfl (fun hb4 => ?_) (fun hb4 => ?_)
  ·replace h := bif_t hb4 h
   refine c_skip (q_then (c_blk (c_seq (rg (sm (I s2.1) rfl (sm (I s2.2) rfl (st (v := (I (w64 (s2.1 + s2.2)))) (rv_add (a := s2.1) (b := s2.2) rfl rfl) (st (v := (.int .u64 (wk .u64 (w64 (s2.1 + s2.2))))) (rvk_conv (k := .i64) (k' := .u64) (a := (w64 (s2.1 + s2.2))) Tryz.underlying3 Tryz.underlying75 rfl) ?_))))))))
   refine st (v := (.int .u64 (gshr .u64 (wk .u64 (w64 (s2.1 + s2.2))) 1))) (rvk_shr (k := .u64) (k' := .u64) (a := (wk .u64 (w64 (s2.1 + s2.2)))) (b := 1) rfl rfl (by decide)) ?_
   refine st (v := (I (wk .i64 (gshr .u64 (wk .u64 (w64 (s2.1 + s2.2))) 1)))) (rvk_conv (k := .u64) (k' := .i64) (a := (gshr .u64 (wk .u64 (w64 (s2.1 + s2.2))) 1)) Tryz.underlying75 Tryz.underlying3 rfl) (sa (I (wk .i64 (gshr .u64 (wk .u64 (w64 (s2.1 + s2.2))) 1))) rfl (w_end (q_then (c_seq (rg (sm (.func (.func 40) #[] #[]) rfl (sm (Sl Bz As Ca) rfl (sm (I (wk .i64 (gshr .u64 (wk .u64 (w64 (s2.1 + s2.2))) 1))) rfl ?_))))))))
   revert h; refine br fun x5 hx6 h => ?_
   obtain ⟨b8, o9, hi7, -⟩ := (H.ro 0 rfl).ix hx6
   refine st (v := (pt b8 o9)) (rv_ix Tryz.underlying27 ti45 rfl rfl hi7) ?_
   obtain ⟨_, ⟨_, _, rfl, rfl, ⟨_, _, rfl, ⟨_, rfl, hR14⟩, rfl⟩⟩, hl10, hc11⟩ := ((H.ro 0 rfl).at hx6 hi7).cells
   obtain ⟨a12, c13, rfl⟩ := hR14.isSl
   replace H := H.add (d := Ch.ro 0 (Sl a12 x5.2.1 c13) x5.2.1) hR14 (fun _ h => h)
   clear hR14
   refine st (v := (.agg #[(I x5.1), (Sl a12 x5.2.1 c13), (I x5.2.2)])) (rv_load Tryz.underlying45 rfl ti45 rfl hl10 hc11) (sm (I By) rfl ?_)
   revert h; refine br fun r15 hx16 h => ?_
   have hc17 := c_impl_placeOf_1 (Au := a12) (Av := c13) hx16
   refine st_call (cx_call hc17 (ent_v (cap := []) hc17.fn rfl rfl) hn0 (H.sel' [0, 0, 1] rfl rfl : Hp S0 σ0 _ ([_] ++ _))) wn ?_
   rintro _ σ18 ⟨_, ⟨rfl, rfl⟩, H, -⟩
   replace H : Hp _ _ _ [_, _] := H
   refine st (v := (B (decide (r15 < 0)))) (rv_lss (a := r15) (b := 0) rfl rfl) (w_end (q_then ?_))
   refine cd_cond (decide (r15 < 0)) rfl (fun hb19 => ?_) (fun hb19 => ?_)
   ·replace h := bif_t hb19 h
    refine rg (sm (I (wk .i64 (gshr .u64 (wk .u64 (w64 (s2.1 + s2.2))) 1))) rfl (st (v := (I (w64 ((wk .i64 (gshr .u64 (wk .u64 (w64 (s2.1 + s2.2))) 1)) + 1)))) (rv_add (a := (wk .i64 (gshr .u64 (wk .u64 (w64 (s2.1 + s2.2))) 1))) (b := 1) rfl rfl) (sa (I (w64 ((wk .i64 (gshr .u64 (wk .u64 (w64 (s2.1 + s2.2))) 1)) + 1))) rfl (w_end (q_blk (q_then ?_))))))
    obtain rfl := sj h
    exact ⟨_, rfl, _, σ18, fr_join ⟨rfl, rfl, rfl, rfl, rfl, rfl, trivial⟩, rfl, H.sel' [1] rfl rfl⟩
   ·replace h := bif_f hb19 h
    refine rg (sm (I (wk .i64 (gshr .u64 (wk .u64 (w64 (s2.1 + s2.2))) 1))) rfl (sa (I (wk .i64 (gshr .u64 (wk .u64 (w64 (s2.1 + s2.2))) 1))) rfl (w_end (q_blk (q_then ?_)))))
    obtain rfl := sj h
    exact ⟨_, rfl, _, σ18, fr_join ⟨rfl, rfl, rfl, rfl, rfl, rfl, trivial⟩, rfl, H.sel' [1] rfl rfl⟩
  ·replace h := bif_f hb4 h
   refine c_exit (q_then_x (q_then_x (q_blk_hit ?_)))
   obtain rfl := sj h
   obtain rfl := hres _ rfl
   exact ⟨rfl, _, σ3, fr_join ⟨rfl, rfl, rfl, rfl, rfl, trivial⟩, rfl, H.sel' [0] rfl rfl⟩
 ·clear hj
  have h := h'
  clear h' H
  rintro e a w ⟨rfl, ρ, σ20, rfl, rfl, H⟩
  refine q_then (c_seq (rg (sm (I o1) rfl (sm (I o1) rfl (sm (I (As.length : Int)) rfl (st (v := (B (decide (o1 < (As.length : Int))))) (rv_lss (a := o1) (b := (As.length : Int)) rfl rfl) (sm (B (decide (o1 < (As.length : Int)))) rfl ?_)))))))
  rcases Bool.eq_false_or_eq_true (decide (o1 < (As.length : Int))) with hb21 | hb21
  ·replace h := bif_t hb21 h
   refine st_g (v := (.func (.func 40) #[] #[])) (congrArg some hb21) (rv_move rfl) (st_g (v := (Sl Bz As Ca)) (congrArg some hb21) (rv_move rfl) (st_g (v := (I o1)) (congrArg some hb21) (rv_move rfl) ?_))
   revert h; refine br fun x22 hx23 h => ?_
   obtain ⟨b25, o26, hi24, -⟩ := (H.ro 0 rfl).ix hx23
   refine st_g (v := (pt b25 o26)) (congrArg some hb21) (rv_ix Tryz.underlying27 ti45 rfl rfl hi24) ?_
   obtain ⟨_, ⟨_, _, rfl, rfl, ⟨_, _, rfl, ⟨_, rfl, hR31⟩, rfl⟩⟩, hl27, hc28⟩ := ((H.ro 0 rfl).at hx23 hi24).cells
   obtain ⟨a29, c30, rfl⟩ := hR31.isSl
   replace H := H.add (d := Ch.ro 0 (Sl a29 x22.2.1 c30) x22.2.1) hR31 (fun _ h => h)
   clear hR31
   refine st_g (v := (.agg #[(I x22.1), (Sl a29 x22.2.1 c30), (I x22.2.2)])) (congrArg some hb21) (rv_load Tryz.underlying45 rfl ti45 rfl hl27 hc28) (st_g (v := (I By)) (congrArg some hb21) (rv_move rfl) ?_)
   revert h; refine br fun r32 hx33 h => ?_
   have hc34 := c_impl_placeOf_1 (Au := a29) (Av := c30) hx33
   refine st_call (cx_call hc34 (ent_v (cap := []) hc34.fn rfl rfl) hn0 (H.sel' [0, 0, 1] rfl rfl : Hp S0 σ0 _ ([_] ++ _))) (wanted_yes rfl (by exact (congrArg some hb21))) ?_
   rintro _ σ35 ⟨_, ⟨rfl, rfl⟩, H, -⟩
   replace H : Hp _ _ _ [_, _] := H
   refine st_g (v := (B (r32 == 0))) (congrArg some hb21) (rv_eql (a := r32) (b := 0) rfl rfl) (st (v := (B (r32 == 0))) (rv_pick_t (congrArg B hb21) rfl) (sa (I o1) rfl (sa (B (r32 == 0)) rfl (w_end (q_then (c_ret ?_))))))
   obtain rfl := sj h
   exact fin_ret (v := (.tuple #[(I o1), (B (r32 == 0))])) (results_ok Tryz.results39 (res_tmp (v := (I o1)) rfl (res_tmp (v := (B (r32 == 0))) rfl res_nil)) rfl) ⟨rfl, rfl⟩ (H.sel' [] rfl rfl)
  ·replace h := bif_f hb21 h
   refine st_skip (congrArg some hb21) (st_skip (congrArg some hb21) (st_skip (congrArg some hb21) (st_skip (congrArg some hb21) (st_skip (congrArg some hb21) (st_skip (congrArg some hb21) (st_skip (congrArg some hb21) (st_skip (congrArg some hb21) (st (v := (B false)) (rv_pick_f (congrArg B hb21) rfl) (sa (I o1) rfl (sa (B false) rfl (w_end ?_)))))))))))
   refine q_then (c_ret ?_)
   obtain rfl := sj h
   exact fin_ret (v := (.tuple #[(I o1), (B false)])) (results_ok Tryz.results39 (res_tmp (v := (I o1)) rfl (res_tmp (v := (B false)) rfl res_nil)) rfl) ⟨rfl, rfl⟩ (H.sel' [] rfl rfl)

theorem c_impl_placeOf {Ak : List (Int × (List Int) × Int)} {Bb : Int} {Am : Option Addr} {Ao : Nat} {r : Int × Bool} (h : M.impl_placeOf Ak Bb = some r) :
    Cal2 Tryz.prog 24 [(Sl Am Ak Ao), (I Bb)] [Ch.ro 0 (Sl Am Ak Ao) Ak] (fun n0 v L => v = (.tuple #[(I r.1), (B r.2)]) ∧ L = []) := by
 refine cal2 (n := 11) Tryz.func24 rfl rfl rfl rfl ?_
 intro S0 σ0 n0 hn0 H
 unfold M.impl_placeOf at h
 refine c_seq (rg (sa (I 0) rfl (sa (B false) rfl (w_end (q_then (c_seq (rg (sm (Sl Am Ak Ao) rfl (sm (I Bb) rfl ?_)))))))))
 revert h; refine br fun r1 hx2 h => ?_
 have hc3 := c_slices_BinarySearchFunc_impl_Item_impl_Item_int__impl_placeOf_1 (Bz := Am) (Ca := Ao) hx2
 refine st_call (cx_call hc3 (ent_f hc3.fn rfl) hn0 (H.sel' [0, 0] rfl rfl : Hp S0 σ0 _ ([_] ++ _))) wn ?_
 rintro _ σ4 ⟨_, ⟨rfl, rfl⟩, H, -⟩
 replace H : Hp _ _ _ [_] := H
 refine st (v := (I r1.1)) (rv_extract rfl rfl) (st (v := (B r1.2)) (rv_extract rfl rfl) (sa (I r1.1) rfl (sa (B r1.2) rfl (w_end (q_then (c_ret ?_))))))
 obtain rfl := sj h
 exact fin_ret (v := (.tuple #[(I r1.1), (B r1.2)])) (results_ok Tryz.results24 (res_tmp (v := (I r1.1)) rfl (res_tmp (v := (B r1.2)) rfl res_nil)) rfl) ⟨rfl, rfl⟩ (H.sel' [] rfl rfl)

theorem c_slices_Clone_impl_Item_impl_Item {Cb : List (Int × (List Int) × Int)} {Cc : Option Addr} {Cd : Nat} {r : (List (Int × (List Int) × Int))} (h : M.slices_Clone_impl_Item_impl_Item Cb = some r) :
    Cal2 Tryz.prog 55 [(Sl Cc Cb Cd)] [Ch.ro 0 (Sl Cc Cb Cd) Cb] (fun n0 v L => ∃ (az1 : Option Addr), ∃ (cz2 : Nat), v = (Sl az1 r cz2) ∧ L = [Ch.own n0 0 (Sl az1 r cz2) r]) := by
 refine cal2 (n := 8) Tryz.func55 rfl rfl rfl rfl ?_
 intro S0 σ0 n0 hn0 H
 unfold M.slices_Clone_impl_Item_impl_Item at h
 refine c_seq (rg (sa (.slice none 0 0) rfl (w_end (q_then (c_seq (c_seq (rg (sm (Sl Cc Cb Cd) rfl (st (v := (B Cc.isNone)) (rv_nilS Tryz.underlying27 rfl rfl) (w_end (q_then ?_)))))))))))
 refine cd_cond Cc.isNone rfl (fun hb1 => ?_) (fun hb1 => ?_)
 ·have hq := RS.nilOf hb1 (H.ro 0 rfl)
  subst hq
  replace h : some [] = some r := by simpa [gapp] using h
  refine c_seq (rg (sa (.slice none 0 0) rfl (w_end (q_then (c_ret (q_then_r ?_))))))
  replace H := H.nilOwn (Int × (List Int) × Int) n0 0
  obtain rfl := sj h
  exact fin_ret (v := (.slice none 0 0)) (results_ok Tryz.results55 (res_tmp (v := (.slice none 0 0)) rfl res_nil) rfl) ⟨none, 0, rfl, rfl⟩ (H.sel' [0] rfl rfl)
 ·refine c_skip ?_
  refine q_then (c_seq (rg ?_))
  refine st_ex (ex_buildSlice (el := n0) (xs := ([] : List (Int × (List Int) × Int))) (ps := []) (cs := []) H hn0 Tryz.underlying27 ti45 rfl rfl (by kernel_rfl) (.nil) rfl) wn ?_
  rintro _ σ3 ⟨b2, rfl, H, -⟩
  refine sm (Sl Cc Cb Cd) rfl ?_
  replace H := H.ownLow 0 n0 0 rfl (Nat.le_refl _) (Nat.zero_le _)
  revert h; refine br fun xs4 hx5 h => ?_
  refine st_ex (ex_append H (i := 0) rfl Tryz.underlying27 Tryz.underlying27 ti45 rfl rfl (by decide) (H.ro 1 rfl).rd hx5 hn0 rfl rfl) wn ?_
  rintro _ σ8 ⟨a6, c7, rfl, H, -⟩
  refine sa (Sl a6 xs4 c7) rfl (w_end (q_then (c_ret ?_)))
  obtain rfl := sj h
  exact fin_ret (v := (Sl a6 xs4 c7)) (results_ok Tryz.results55 (res_tmp (v := (Sl a6 xs4 c7)) rfl res_nil) rfl) ⟨a6, c7, rfl, rfl⟩ (H.sel' [0] rfl rfl)

theorem c_slices_xorshift_Next {Ce : Int} {Cf Cg Ci : Nat} {Cj Ck : List Value} {r : Int × Int} (h : M.slices_xorshift_Next Ce = some r) :
    Cal2 Tryz.prog 87 [(pt Cg Ci)] [Ch.bx Cf Cg Ci [(.int .u64 Ce)] Cj Ck] (fun n0 v L => v = (.int .u64 r.1) ∧ L = [Ch.bx Cf Cg Ci [(.int .u64 r.2)] Cj Ck]) := by
 refine cal2 (n := 33) Tryz.func87 rfl rfl rfl rfl ?_
 intro S0 σ0 n0 hn0 H
 unfold M.slices_xorshift_Next at h
 refine c_seq (rg (sa (.int .u64 0) rfl (w_end (q_then (c_seq ?_)))))
 refine rgP (σ := σ0) 7 (by kernel_rfl) (by kernel_rfl) (by kernel_rfl) ?_
 refine sq (v := (pt Cg Ci)) (rv_move rfl) (sq (v := (pt Cg Ci)) (rv_nilCheck rfl) ?_)
 have hc1 := H.cell (u := (.int .u64 Ce)) (o' := Ci) 0 0 rfl rfl rfl
 refine sq (v := (.int .u64 Ce)) (rv_load1 Tryz.underlying120 rfl rfl hc1) (sq (v := (pt Cg Ci)) (rv_move rfl) (sq (v := (pt Cg Ci)) (rv_nilCheck rfl) ?_))
 have hc2 := H.cell (u := (.int .u64 Ce)) (o' := Ci) 0 0 rfl rfl rfl
 refine sq (v := (.int .u64 Ce)) (rv_load1 Tryz.underlying120 rfl rfl hc2) ?_
 refine sq (v := (.int .u64 (gshl .u64 Ce 13))) (rvk_shl (k := .u64) (k' := .u64) (a := Ce) (b := 13) rfl rfl (by decide)) ?_
 refine sq_end ?_
 intro σ3 hm4
 replace H := H.grow (hm4.mono fun _ h => h); clear hm4
 refine st (v := (.int .u64 (gxork .u64 Ce (gshl .u64 Ce 13)))) (rvk_xor (k := .u64) (a := Ce) (b := (gshl .u64 Ce 13)) rfl rfl) (st (v := (pt Cg Ci)) (rv_nilCheck rfl) ?_)
 refine st_exS (ex_store_box (k := 0) (cs := [(.int .u64 Ce)]) (vs := [(.int .u64 (gxork .u64 Ce (gshl .u64 Ce 13)))]) (cs' := [(.int .u64 (gxork .u64 Ce (gshl .u64 Ce 13)))]) H (i := 0) rfl ti120 rfl rfl rfl rfl rfl (Nat.le_of_ble_eq_true rfl) (by simp [plain]) rfl) wn ?_
 rintro σ5 ⟨H, -⟩
 refine w_end (q_then (c_seq ?_))
 refine rgP (σ := σ5) 7 (by kernel_rfl) (by kernel_rfl) (by kernel_rfl) ?_
 refine sq (v := (pt Cg Ci)) (rv_move rfl) (sq (v := (pt Cg Ci)) (rv_nilCheck rfl) ?_)
 have hc6 := H.cell (u := (.int .u64 (gxork .u64 Ce (gshl .u64 Ce 13)))) (o' := Ci) 0 0 rfl rfl rfl
 refine sq (v := (.int .u64 (gxork .u64 Ce (gshl .u64 Ce 13)))) (rv_load1 Tryz.underlying120 rfl rfl hc6) (sq (v := (pt Cg Ci)) (rv_move rfl) (sq (v := (pt Cg Ci)) (rv_nilCheck rfl) ?_))
 have hc7 := H.cell (u := (.int .u64 (gxork .u64 Ce (gshl .u64 Ce 13)))) (o' := Ci) 0 0 rfl rfl rfl
 refine sq (v := (.int .u64 (gxork .u64 Ce (gshl .u64 Ce 13)))) (rv_load1 Tryz.underlying120 rfl rfl hc7) ?_
 refine sq (v := (.int .u64 (gshr .u64 (gxork .u64 Ce (gshl .u64 Ce 13)) 7))) (rvk_shr (k := .u64) (k' := .u64) (a := (gxork .u64 Ce (gshl .u64 Ce 13))) (b := 7) rfl rfl (by decide)) ?_
 refine sq_end ?_
 intro σ8 hm9
 replace H := H.grow (hm9.mono fun _ h => h); clear hm9
 refine st (v := (.int .u64 (gxork .u64 (gxork .u64 Ce (gshl .u64 Ce 13)) (gshr .u64 (gxork .u64 Ce (gshl .u64 Ce 13)) 7)))) (rvk_xor (k := .u64) (a := (gxork .u64 Ce (gshl .u64 Ce 13))) (b := (gshr .u64 (gxork .u64 Ce (gshl .u64 Ce 13)) 7)) rfl rfl) (st (v := (pt Cg Ci)) (rv_nilCheck rfl) ?_)
 refine st_exS (ex_store_box (k := 0) (cs := [(.int .u64 (gxork .u64 Ce (gshl .u64 Ce 13)))]) (vs := [(.int .u64 (gxork .u64 (gxork .u64 Ce (gshl .u64 Ce 13)) (gshr .u64 (gxork .u64 Ce (gshl .u64 Ce 13)) 7)))]) (cs' := [(.int .u64 (gxork .u64 (gxork .u64 Ce (gshl .u64 Ce 13)) (gshr .u64 (gxork .u64 Ce (gshl .u64 Ce 13)) 7)))]) H (i := 0) rfl ti120 rfl rfl rfl rfl rfl (Nat.le_of_ble_eq_true rfl) (by simp [plain]) rfl) wn ?_
 rintro σ10 ⟨H, -⟩
 refine w_end (q_then (c_seq ?_))
 refine rgP (σ := σ10) 7 (by kernel_rfl) (by kernel_rfl) (by kernel_rfl) ?_
 refine sq (v := (pt Cg Ci)) (rv_move rfl) (sq (v := (pt Cg Ci)) (rv_nilCheck rfl) ?_)
 have hc11 := H.cell (u := (.int .u64 (gxork .u64 (gxork .u64 Ce (gshl .u64 Ce 13)) (gshr .u64 (gxork .u64 Ce (gshl .u64 Ce 13)) 7)))) (o' := Ci) 0 0 rfl rfl rfl
 refine sq (v := (.int .u64 (gxork .u64 (gxork .u64 Ce (gshl .u64 Ce 13)) (gshr .u64 (gxork .u64 Ce (gshl .u64 Ce 13)) 7)))) (rv_load1 Tryz.underlying120 rfl rfl hc11) (sq (v := (pt Cg Ci)) (rv_move rfl) (sq (v := (pt Cg Ci)) (rv_nilCheck rfl) ?_))
 have hc12 := H.cell (u := (.int .u64 (gxork .u64 (gxork .u64 Ce (gshl .u64 Ce 13)) (gshr .u64 (gxork .u64 Ce (gshl .u64 Ce 13)) 7)))) (o' := Ci) 0 0 rfl rfl rfl
 refine sq (v := (.int .u64 (gxork .u64 (gxork .u64 Ce (gshl .u64 Ce 13)) (gshr .u64 (gxork .u64 Ce (gshl .u64 Ce 13)) 7)))) (rv_load1 Tryz.underlying120 rfl rfl hc12) ?_
 refine sq (v := (.int .u64 (gshl .u64 (gxork .u64 (gxork .u64 Ce (gshl .u64 Ce 13)) (gshr .u64 (gxork .u64 Ce (gshl .u64 Ce 13)) 7)) 17))) (rvk_shl (k := .u64) (k' := .u64) (a := (gxork .u64 (gxork .u64 Ce (gshl .u64 Ce 13)) (gshr .u64 (gxork .u64 Ce (gshl .u64 Ce 13)) 7))) (b := 17) rfl rfl (by decide)) ?_
 refine sq_end ?_
 intro σ13 hm14
 replace H := H.grow (hm14.mono fun _ h => h); clear hm14
 refine st (v := (.int .u64 (gxork .u64 (gxork .u64 (gxork .u64 Ce (gshl .u64 Ce 13)) (gshr .u64 (gxork .u64 Ce (gshl .u64 Ce 13)) 7)) (gshl .u64 (gxork .u64 (gxork .u64 Ce (gshl .u64 Ce 13)) (gshr .u64 (gxork .u64 Ce (gshl .u64 Ce 13)) 7)) 17)))) (rvk_xor (k := .u64) (a := (gxork .u64 (gxork .u64 Ce (gshl .u64 Ce 13)) (gshr .u64 (gxork .u64 Ce (gshl .u64 Ce 13)) 7))) (b := (gshl .u64 (gxork .u64 (gxork .u64 Ce (gshl .u64 Ce 13)) (gshr .u64 (gxork .u64 Ce (gshl .u64 Ce 13)) 7)) 17)) rfl rfl) (st (v := (pt Cg Ci)) (rv_nilCheck rfl) ?_)
 refine st_exS (ex_store_box (k := 0) (cs := [(.int .u64 (gxork .u64 (gxork .u64 Ce (gshl .u64 Ce 13)) (gshr .u64 (gxork .u64 Ce (gshl .u64 Ce 13)) 7)))]) (vs := [(.int .u64 (gxork .u64 (gxork .u64 (gxork .u64 Ce (gshl .u64 Ce 13)) (gshr .u64 (gxork .u64 Ce (gshl .u64 Ce 13)) 7)) (gshl .u64 (gxork .u64 (gxork .u64 Ce (gshl .u64 Ce 13)) (gshr .u64 (gxork .u64 Ce (gshl .u64 Ce 13)) 7)) 17)))]) (cs' := [(.int .u64 (gxork .u64 (gxork .u64 (gxork .u64 Ce (gshl .u64 Ce 13)) (gshr .u64 (gxork .u64 Ce (gshl .u64 Ce 13)) 7)) (gshl .u64 (gxork .u64 (gxork .u64 Ce (gshl .u64 Ce 13)) (gshr .u64 (gxork .u64 Ce (gshl .u64 Ce 13)) 7)) 17)))]) H (i := 0) rfl ti120 rfl rfl rfl rfl rfl (Nat.le_of_ble_eq_true rfl) (by simp [plain]) rfl) wn ?_
 rintro σ15 ⟨H, -⟩
 refine w_end (q_then (c_seq (rg (sm (pt Cg Ci) rfl (st (v := (pt Cg Ci)) (rv_nilCheck rfl) ?_)))))
 have hc16 := H.cell (u := (.int .u64 (gxork .u64 (gxork .u64 (gxork .u64 Ce (gshl .u64 Ce 13)) (gshr .u64 (gxork .u64 Ce (gshl .u64 Ce 13)) 7)) (gshl .u64 (gxork .u64 (gxork .u64 Ce (gshl .u64 Ce 13)) (gshr .u64 (gxork .u64 Ce (gshl .u64 Ce 13)) 7)) 17)))) (o' := Ci) 0 0 rfl rfl rfl
 refine st (v := (.int .u64 (gxork .u64 (gxork .u64 (gxork .u64 Ce (gshl .u64 Ce 13)) (gshr .u64 (gxork .u64 Ce (gshl .u64 Ce 13)) 7)) (gshl .u64 (gxork .u64 (gxork .u64 Ce (gshl .u64 Ce 13)) (gshr .u64 (gxork .u64 Ce (gshl .u64 Ce 13)) 7)) 17)))) (rv_load1 Tryz.underlying120 rfl rfl hc16) (sa (.int .u64 (gxork .u64 (gxork .u64 (gxork .u64 Ce (gshl .u64 Ce 13)) (gshr .u64 (gxork .u64 Ce (gshl .u64 Ce 13)) 7)) (gshl .u64 (gxork .u64 (gxork .u64 Ce (gshl .u64 Ce 13)) (gshr .u64 (gxork .u64 Ce (gshl .u64 Ce 13)) 7)) 17))) rfl (w_end (q_then (c_ret ?_))))
 obtain rfl := sj h
 exact fin_ret (v := (.int .u64 (gxork .u64 (gxork .u64 (gxork .u64 Ce (gshl .u64 Ce 13)) (gshr .u64 (gxork .u64 Ce (gshl .u64 Ce 13)) 7)) (gshl .u64 (gxork .u64 (gxork .u64 Ce (gshl .u64 Ce 13)) (gshr .u64 (gxork .u64 Ce (gshl .u64 Ce 13)) 7)) 17)))) (results_ok Tryz.results87 (res_tmp (v := (.int .u64 (gxork .u64 (gxork .u64 (gxork .u64 Ce (gshl .u64 Ce 13)) (gshr .u64 (gxork .u64 Ce (gshl .u64 Ce 13)) 7)) (gshl .u64 (gxork .u64 (gxork .u64 Ce (gshl .u64 Ce 13)) (gshr .u64 (gxork .u64 Ce (gshl .u64 Ce 13)) 7)) 17)))) rfl res_nil) rfl) ⟨rfl, rfl⟩ (H.sel' [0] rfl rfl)

theorem c_impl_gapsOf {Aa : List Int} {Bj : List Int} (Cl : Aa.length = 4) (Cm : Bj.length = 4) {r : (List Int)} (h : M.impl_gapsOf Aa Bj = some r) :
    Cal2 Tryz.prog 59 [(.agg (List.map I Aa).toArray), (.agg (List.map I Bj).toArray)] [] (fun n0 v L => v = (.agg (List.map I r).toArray) ∧ L = [] ∧ r.length = 4) := by
 refine cal2 (n := 29) Tryz.func59 rfl rfl rfl rfl ?_
 intro S0 σ0 n0 hn0 H
 unfold M.impl_gapsOf at h
 refine c_seq (rg (st_ex (ex_box (cs := (List.map I Aa)) H hn0 rfl rfl) wn ?_))
 rintro _ σ2 ⟨b1, rfl, H, -⟩
 refine st_ex (ex_box (cs := (List.map I Bj)) H hn0 rfl rfl) wn ?_
 rintro _ σ4 ⟨b3, rfl, H, -⟩
 refine st_ex (ex_alloc (cs := (List.map I (List.replicate 4 0))) H hn0 ti81 rfl) wn ?_
 rintro _ σ6 ⟨b5, rfl, H, -⟩
 refine w_end (q_then (c_seq (rg (st_ex (ex_alloc (cs := (List.map I (List.replicate 4 0))) H hn0 ti81 rfl) wn ?_))))
 rintro _ σ8 ⟨b7, rfl, H, -⟩
 refine w_end (q_then (c_seq (c_seq (rg (sm (I 0) rfl (w_end (q_then ?_)))))))
 obtain ⟨o9, hj, h'⟩ := bind_some h
 clear h
 refine c_cut (fun e a w => e = .normal ∧ ∃ (ρ : Nat → Value) (σ : St), a = fr 29 (updL ρ [(4, (pt b5 0)), (5, (pt b7 0))]) ∧ w = σ.w ∧ Hp S0 σ0 σ [Ch.bx n0 b7 0 (List.map I o9) [] [], Ch.bx n0 b5 0 (List.map I (List.replicate 4 0)) [] []] ∧ o9.length = 4) ?_ ?_
 ·clear h'
  rename _ = some o9 => h
  refine c_blk (wp_loopM _ h (fun s10 a w => ∃ (ρ : Nat → Value) (σ : St), a = fr 29 (updL ρ [(2, (pt b1 0)), (3, (pt b3 0)), (4, (pt b5 0)), (5, (pt b7 0)), (7, (I s10.2))]) ∧ w = σ.w ∧ Hp S0 σ0 σ [Ch.bx n0 b7 0 (List.map I s10.1) [] [], Ch.bx n0 b1 0 (List.map I Aa) [] [], Ch.bx n0 b3 0 (List.map I Bj) [] [], Ch.bx n0 b5 0 (List.map I (List.replicate 4 0)) [] []] ∧ s10.1.length = 4) ⟨_, σ8, fr_join ⟨rfl, rfl, rfl, rfl, rfl, trivial⟩, rfl, H.sel' [0, 3, 2, 1] rfl rfl, rfl⟩ ?_)
  clear h H
  rintro s10 a w o ⟨ρ, σ11, rfl, rfl, H, hl12⟩ h hres
  refine c_seq (rg (st (v := (B (decide (s10.2 < 4)))) (rv_lss (a := s10.2) (b := 4) rfl rfl) (w_end (q_then (c_seq ?_)))))
  refine cd_cond (decide (s10.2 < 4)) rfl (fun hb13 => ?_) (fun hb13 => ?_)
  ·replace h := bif_t hb13 h
   refine c_skip (q_then (c_seq (c_blk (c_seq (rg (sm (I s10.2) rfl (sa (I s10.2) rfl (w_end (q_then ?_)))))))))
   refine rgP (σ := σ11) 16 (by kernel_rfl) (by kernel_rfl) (by kernel_rfl) ?_
   refine sq (v := (I s10.2)) (rv_move rfl) (sq (v := (I s10.2)) (rv_move rfl) ?_)
   revert h; refine br fun x14 hx15 h => ?_
   have hl16 := gidx_lt hx15 Cl
   refine sq (v := (pt b1 (0 + s10.2.toNat * 1))) (rv_indexAddr_array Tryz.underlying81 ti3 rfl rfl hl16.1 hl16.2) ?_
   have hc17 := Hp.arrCell H 1 rfl hx15
   refine sq (v := (I x14)) (rv_load1 Tryz.underlying3 rfl rfl hc17) (sq (v := (I s10.2)) (rv_move rfl) ?_)
   revert h; refine br fun x18 hx19 h => ?_
   have hl20 := gidx_lt hx19 Cm
   refine sq (v := (pt b3 (0 + s10.2.toNat * 1))) (rv_indexAddr_array Tryz.underlying81 ti3 rfl rfl hl20.1 hl20.2) ?_
   have hc21 := Hp.arrCell H 2 rfl hx19
   refine sq (v := (I x18)) (rv_load1 Tryz.underlying3 rfl rfl hc21) (sq (v := (I (w64 (x14 - x18)))) (rv_sub (a := x14) (b := x18) rfl rfl) (sq (v := (I s10.2)) (rv_move rfl) ?_))
   revert h; refine br fun x22 hx23 h => ?_
   have hl24 := gidx_lt hx23 Cm
   refine sq (v := (pt b3 (0 + s10.2.toNat * 1))) (rv_indexAddr_array Tryz.underlying81 ti3 rfl rfl hl24.1 hl24.2) ?_
   have hc25 := Hp.arrCell H 2 rfl hx23
   refine sq (v := (I x22)) (rv_load1 Tryz.underlying3 rfl rfl hc25) (sq (v := (I s10.2)) (rv_move rfl) ?_)
   revert h; refine br fun x26 hx27 h => ?_
   have hl28 := gidx_lt hx27 Cl
   refine sq (v := (pt b1 (0 + s10.2.toNat * 1))) (rv_indexAddr_array Tryz.underlying81 ti3 rfl rfl hl28.1 hl28.2) ?_
   have hc29 := Hp.arrCell H 1 rfl hx27
   refine sq (v := (I x26)) (rv_load1 Tryz.underlying3 rfl rfl hc29) (sq (v := (I (w64 (x22 - x26)))) (rv_sub (a := x22) (b := x26) rfl rfl) (sq (v := (I (max (w64 (x14 - x18)) (w64 (x22 - x26))))) (rv_max rfl rfl) (sq_end ?_)))
   intro σ30 hm31
   replace H := H.grow (hm31.mono fun _ h => h); clear hm31
   revert h; refine br fun x32 hx33 h => ?_
   have hl34 := gidx_lt hx33 hl12
   refine st (v := (pt b7 (0 + s10.2.toNat * 1))) (rv_indexAddr_array Tryz.underlying81 ti3 rfl rfl hl34.1 hl34.2) ?_
   have hl35 := gidx_lt hx33 hl12
   refine st_exS (ex_store_box (k := s10.2.toNat * 1) (vs := [(I (max (w64 (x14 - x18)) (w64 (x22 - x26))))]) (cs' := (List.map I (s10.1.set s10.2.toNat (max (w64 (x14 - x18)) (w64 (x22 - x26)))))) H (i := 0) rfl ti3 rfl rfl rfl rfl rfl (by rw [List.length_map, hl12]; simp; omega) (by simp [plain]) (arr_set' _ _ _)) wn ?_
   rintro σ36 ⟨H, -⟩
   refine w_end (q_blk (q_then (rg (st (v := (I (w64 (s10.2 + 1)))) (rv_add (a := s10.2) (b := 1) rfl rfl) (sm (I (w64 (s10.2 + 1))) rfl (w_end (q_then ?_)))))))
   obtain rfl := sj h
   exact ⟨_, rfl, _, σ36, fr_join ⟨rfl, rfl, rfl, rfl, rfl, trivial⟩, rfl, H.sel' [0, 1, 2, 3] rfl rfl, (set_len hl12)⟩
  ·replace h := bif_f hb13 h
   refine c_exit (q_then_x (q_then_x (q_blk_hit ?_)))
   obtain rfl := sj h
   obtain rfl := hres _ rfl
   exact ⟨rfl, _, σ11, fr_join ⟨rfl, rfl, trivial⟩, rfl, H.sel' [0, 3] rfl rfl, hl12⟩
 ·clear hj
  have h := h'
  clear h' H
  rintro e a w ⟨rfl, ρ, σ37, rfl, rfl, H, hl38⟩
  refine q_then (c_seq (rg ?_))
  have hc39 := H.cells 0 rfl
  refine st (v := (.agg (List.map I o9).toArray)) (rv_load (cs := (List.map I o9)) Tryz.underlying81 rfl ti81 rfl (by rw [List.length_map]; exact hl38) hc39) ?_
  refine st_exS (ex_store_box (k := 0) (cs := (List.map I (List.replicate 4 0))) (vs := (List.map I o9)) (cs' := (List.map I o9)) H (i := 1) rfl ti81 rfl rfl rfl rfl ((List.length_map _).trans hl38) (arr_fits (k := 4) hl38 rfl) (plain_ints _) (arr_all (k := 4) hl38 rfl)) wn ?_
  rintro σ40 ⟨H, -⟩
  refine w_end (q_then (c_ret ?_))
  obtain rfl := sj h
  exact fin_ret (v := (.agg (List.map I o9).toArray)) (results_ok Tryz.results59 (res_cell rfl (run_cellRes (cs := (List.map I o9)) Tryz.underlying81 rfl ti81 (by rw [List.length_map]; exact hl38) (H.cells 0 rfl)) res_nil) rfl) ⟨rfl, rfl, hl38⟩ (H.sel' [] rfl rfl)

theorem c_impl_distanceOf {Aw : Int} {Cn : List Int} (Cp : Cn.length = 4) {r : Int} (h : M.impl_distanceOf Aw Cn = some r) :
    Cal2 Tryz.prog 58 [(I Aw), (.agg (List.map I Cn).toArray)] [] (fun n0 v L => v = (I r) ∧ L = []) := by
 refine cal2 (n := 38) Tryz.func58 rfl rfl rfl rfl ?_
 intro S0 σ0 n0 hn0 H
 unfold M.impl_distanceOf at h
 refine c_seq (rg (st_ex (ex_box (cs := (List.map I Cn)) H hn0 rfl rfl) wn ?_))
 rintro _ σ2 ⟨b1, rfl, H, -⟩
 refine sa (I 0) rfl (w_end (q_then (c_seq (rg (sa (I 0) rfl (w_end (q_then (c_seq (c_seq (rg ?_))))))))))
 have hc3 := H.cells 0 rfl
 refine st (v := (.agg (List.map I Cn).toArray)) (rv_load (cs := (List.map I Cn)) Tryz.underlying81 rfl ti81 rfl (by rw [List.length_map]; exact Cp) hc3) ?_
 refine sm (I 0) rfl (w_end (q_then ?_))
 obtain ⟨o4, hj, h'⟩ := bind_some h
 clear h
 refine c_cut (fun e a w => (∃ t, o4 = (.inl t) ∧ e = .normal ∧ ∃ (ρ : Nat → Value) (σ : St), a = fr 38 (updL ρ [(5, (I t))]) ∧ w = σ.w ∧ Hp S0 σ0 σ []) ∨ (∃ t, o4 = (.inr t) ∧ e = .ret ∧ ∃ (ρ : Nat → Value) (σ : St), a = fr 38 (updL ρ [(4, (I t))]) ∧ w = σ.w ∧ Hp S0 σ0 σ [])) ?_ ?_
 ·clear h'
  rename _ = some o4 => h
  refine c_blk (wp_loopM _ h (fun s5 a w => ∃ (ρ : Nat → Value) (σ : St), a = fr 38 (updL ρ [(0, (I Aw)), (5, (I s5.1)), (8, (.agg (List.map I Cn).toArray)), (9, (I s5.2))]) ∧ w = σ.w ∧ Hp S0 σ0 σ []) ⟨_, σ2, fr_join ⟨rfl, rfl, rfl, rfl, trivial⟩, rfl, H.sel' [] rfl rfl⟩ ?_)
  clear h H
  rintro s5 a w o ⟨ρ, σ6, rfl, rfl, H⟩ h hres
  refine c_seq (rg (st (v := (B (decide (s5.2 < 4)))) (rv_lss (a := s5.2) (b := 4) rfl rfl) (w_end (q_then (c_seq ?_)))))
  refine cd_cond (decide (s5.2 < 4)) rfl (fun hb7 => ?_) (fun hb7 => ?_)
  ·replace h := bif_t hb7 h
   refine c_skip (q_then (c_seq ?_))
   obtain ⟨o8, hj, h'⟩ := bind_some h
   clear h
   refine c_cut (fun e a w => (∃ t, o8 = (.inl t) ∧ e = .normal ∧ ∃ (ρ : Nat → Value) (σ : St), a = fr 38 (updL ρ [(0, (I Aw)), (5, (I t)), (8, (.agg (List.map I Cn).toArray)), (9, (I s5.2))]) ∧ w = σ.w ∧ Hp S0 σ0 σ []) ∨ (∃ t, o8 = (.inr t) ∧ e = .ret ∧ ∃ (ρ : Nat → Value) (σ : St), a = fr 38 (updL ρ [(4, (I t))]) ∧ w = σ.w ∧ Hp S0 σ0 σ [])) ?_ ?_
   ·clear h'
    rename _ = some o8 => h
    refine c_blk (c_seq (rg ?_))
    revert h; refine br fun x9 hx10 h => ?_
    refine st (v := (I x9)) (rv_idx Tryz.underlying81 ti3 Tryz.underlying3 rfl rfl hx10 Cp) (sa (I x9) rfl (w_end (q_then (c_seq (rg (sm (I Aw) rfl (w_end (q_then (c_blk (c_seq (rg ?_)))))))))))
    refine st (v := (B (Aw == 1))) (rv_eql (a := Aw) (b := 1) rfl rfl) (sa (B (Aw == 1)) rfl (w_end (q_then ?_)))
    refine cd_cond (Aw == 1) rfl (fun hb11 => ?_) (fun hb11 => ?_)
    ·replace h := bif_t hb11 h
     refine rg (sm (I s5.1) rfl (sm (I x9) rfl (st (v := (I (w64 (s5.1 + x9)))) (rv_add (a := s5.1) (b := x9) rfl rfl) (sa (I (w64 (s5.1 + x9))) rfl (w_end (q_blk (q_blk ?_)))))))
     obtain rfl := sj h
     exact .inl ⟨_, rfl, rfl, _, σ6, fr_join ⟨rfl, rfl, rfl, rfl, trivial⟩, rfl, H.sel' [] rfl rfl⟩
    ·replace h := bif_f hb11 h
     refine c_seq (rg (st (v := (B (Aw == 2))) (rv_eql (a := Aw) (b := 2) rfl rfl) (sa (B (Aw == 2)) rfl (w_end (q_then ?_)))))
     refine cd_cond (Aw == 2) rfl (fun hb12 => ?_) (fun hb12 => ?_)
     ·replace h := bif_t hb12 h
      refine rg (sm (I s5.1) rfl (sm (I x9) rfl (st (v := (I (max s5.1 x9))) (rv_max rfl rfl) (sa (I (max s5.1 x9)) rfl (w_end (q_blk (q_blk ?_)))))))
      obtain rfl := sj h
      exact .inl ⟨_, rfl, rfl, _, σ6, fr_join ⟨rfl, rfl, rfl, rfl, trivial⟩, rfl, H.sel' [] rfl rfl⟩
     ·replace h := bif_f hb12 h
      refine c_seq (rg (st (v := (B (Aw == 3))) (rv_eql (a := Aw) (b := 3) rfl rfl) (sa (B (Aw == 3)) rfl (w_end (q_then ?_)))))
      refine cd_cond (Aw == 3) rfl (fun hb13 => ?_) (fun hb13 => ?_)
      ·replace h := bif_t hb13 h
       refine rg (sm (I s5.1) rfl (sm (I x9) rfl (sm (I x9) rfl (st (v := (I (w64 (x9 * x9)))) (rv_mul (a := x9) (b := x9) rfl rfl) (st (v := (I (w64 (s5.1 + (w64 (x9 * x9)))))) (rv_add (a := s5.1) (b := (w64 (x9 * x9))) rfl rfl) (sa (I (w64 (s5.1 + (w64 (x9 * x9))))) rfl (w_end (q_blk (q_blk ?_)))))))))
       obtain rfl := sj h
       exact .inl ⟨_, rfl, rfl, _, σ6, fr_join ⟨rfl, rfl, rfl, rfl, trivial⟩, rfl, H.sel' [] rfl rfl⟩
      ·replace h := bif_f hb13 h
       refine c_seq (rg (st (v := (B (Aw == 4))) (rv_eql (a := Aw) (b := 4) rfl rfl) (sa (B (Aw == 4)) rfl (w_end (q_then ?_)))))
       refine cd_cond (Aw == 4) rfl (fun hb14 => ?_) (fun hb14 => ?_)
       ·replace h := bif_t hb14 h
        refine rg (sm (I s5.1) rfl (sm (I x9) rfl (st (v := (I (min x9 1))) (rv_min rfl rfl) (st (v := (I (w64 (s5.1 + (min x9 1))))) (rv_add (a := s5.1) (b := (min x9 1)) rfl rfl) (sa (I (w64 (s5.1 + (min x9 1)))) rfl (w_end (q_blk (q_blk ?_))))))))
        obtain rfl := sj h
        exact .inl ⟨_, rfl, rfl, _, σ6, fr_join ⟨rfl, rfl, rfl, rfl, trivial⟩, rfl, H.sel' [] rfl rfl⟩
       ·replace h := bif_f hb14 h
        refine c_seq (rg (sa (I (-1)) rfl (w_end (q_then (c_ret (q_blk_r (q_blk_r ?_)))))))
        obtain rfl := sj h
        exact .inr (⟨_, rfl, rfl, _, σ6, fr_join ⟨rfl, trivial⟩, rfl, H.sel' [] rfl rfl⟩)
   ·clear hj
    have h := h'
    clear h' H
    rintro e a w (⟨t15, rfl, rfl, ρ, σ16, rfl, rfl, H⟩ | ⟨t17, rfl, rfl, ρ, σ18, rfl, rfl, H⟩)
    ·replace h := selim_l h
     refine q_then (rg (st (v := (I (w64 (s5.2 + 1)))) (rv_add (a := s5.2) (b := 1) rfl rfl) (sm (I (w64 (s5.2 + 1))) rfl (w_end (q_then ?_)))))
     obtain rfl := sj h
     exact ⟨_, rfl, _, σ16, fr_join ⟨rfl, rfl, rfl, rfl, trivial⟩, rfl, H.sel' [] rfl rfl⟩
    ·replace h := selim_r h
     refine q_then_r (q_then_r (q_blk_r ?_))
     obtain rfl := sj h
     obtain rfl := hres _ rfl
     exact .inr (⟨_, rfl, rfl, _, σ18, fr_join ⟨rfl, trivial⟩, rfl, H.sel' [] rfl rfl⟩)
  ·replace h := bif_f hb7 h
   refine c_exit (q_then_x (q_then_x (q_blk_hit ?_)))
   obtain rfl := sj h
   obtain rfl := hres _ rfl
   exact .inl ⟨_, rfl, rfl, _, σ6, fr_join ⟨rfl, trivial⟩, rfl, H.sel' [] rfl rfl⟩
 ·clear hj
  have h := h'
  clear h' H
  rintro e a w (⟨t19, rfl, rfl, ρ, σ20, rfl, rfl, H⟩ | ⟨t21, rfl, rfl, ρ, σ22, rfl, rfl, H⟩)
  ·replace h := selim_l h
   refine q_then (c_seq (rg (sm (I t19) rfl (sa (I t19) rfl (w_end (q_then (c_ret ?_)))))))
   obtain rfl := sj h
   exact fin_ret (v := (I t19)) (results_ok Tryz.results58 (res_tmp (v := (I t19)) rfl res_nil) rfl) ⟨rfl, rfl⟩ (H.sel' [] rfl rfl)
  ·replace h := selim_r h
   refine q_then_r ?_
   obtain rfl := sj h
   exact fin_ret (v := (I t21)) (results_ok Tryz.results58 (res_tmp (v := (I t21)) rfl res_nil) rfl) ⟨rfl, rfl⟩ (H.sel' [] rfl rfl)

theorem c_impl_Distance {Aw : Int} {Bd : List Int} {Be : List Int} {Bf : Option Addr} {Bg : Nat} {Bh : Option Addr} {Bi : Nat} {r : Int} (h : M.impl_Distance Aw Bd Be = some r) :
    Cal2 Tryz.prog 45 [(I Aw), (Sl Bf Bd Bg), (Sl Bh Be Bi)] [Ch.ro 0 (Sl Bf Bd Bg) Bd, Ch.ro 0 (Sl Bh Be Bi) Be] (fun n0 v L => v = (I r) ∧ L = []) := by
 refine cal2 (n := 24) Tryz.func45 rfl rfl rfl rfl ?_
 intro S0 σ0 n0 hn0 H
 unfold M.impl_Distance at h
 refine c_seq (rg (sa (I 0) rfl (w_end (q_then (c_seq (c_seq ?_))))))
 obtain ⟨o1, hj, h'⟩ := bind_some h
 clear h
 refine c_cut (fun e a w => e = .normal ∧ ∃ (ρ : Nat → Value) (σ : St), a = fr 24 (updL ρ [(0, (I Aw)), (1, (Sl Bf Bd Bg)), (2, (Sl Bh Be Bi)), (14, (B o1))]) ∧ w = σ.w ∧ Hp S0 σ0 σ [Ch.ro 0 (Sl Bf Bd Bg) Bd, Ch.ro 0 (Sl Bh Be Bi) Be]) ?_ ?_
 ·clear h'
  rename _ = some o1 => h
  refine rg (sm (Sl Bf Bd Bg) rfl ?_)
  revert h; refine br fun r2 hx3 h => ?_
  have hc4 := c_impl_ValidVector (Aq := Bf) (Ar := Bg) hx3
  refine st_call (cx_call hc4 (ent_f hc4.fn rfl) hn0 (H.sel' [0, 0, 1] rfl rfl : Hp S0 σ0 _ ([_] ++ _))) wn ?_
  rintro _ σ5 ⟨_, ⟨rfl, rfl⟩, H, -⟩
  replace H : Hp _ _ _ [_, _] := H
  refine st (v := (B (!r2))) (rv_not rfl) (sm (B (!r2)) rfl ?_)
  rcases Bool.eq_false_or_eq_true (!r2) with hb6 | hb6
  ·replace h := bif_t hb6 h
   refine st_skip (congrArg some hb6) (st_skip (congrArg some hb6) (st_skip (congrArg some hb6) (st (v := (B true)) (rv_pick_t (congrArg B hb6) rfl) (w_end ?_))))
   obtain rfl := sj h
   exact ⟨rfl, _, σ5, fr_join ⟨rfl, rfl, rfl, rfl, trivial⟩, rfl, H.sel' [0, 1] rfl rfl⟩
  ·replace h := bif_f hb6 h
   refine st_g (v := (Sl Bh Be Bi)) (congrArg some hb6) (rv_move rfl) ?_
   revert h; refine br fun r7 hx8 h => ?_
   have hc9 := c_impl_ValidVector (Aq := Bh) (Ar := Bi) hx8
   refine st_call (cx_call hc9 (ent_f hc9.fn rfl) hn0 (H.sel' [1, 0, 1] rfl rfl : Hp S0 σ0 _ ([_] ++ _))) (wanted_yes rfl (by exact (congrArg some hb6))) ?_
   rintro _ σ10 ⟨_, ⟨rfl, rfl⟩, H, -⟩
   replace H : Hp _ _ _ [_, _] := H
   refine st_g (v := (B (!r7))) (congrArg some hb6) (rv_not rfl) (st (v := (B (!r7))) (rv_pick_f (congrArg B hb6) rfl) (w_end ?_))
   obtain rfl := sj h
   exact ⟨rfl, _, σ10, fr_join ⟨rfl, rfl, rfl, rfl, trivial⟩, rfl, H.sel' [0, 1] rfl rfl⟩
 ·clear hj
  have h := h'
  clear h' H
  rintro e a w ⟨rfl, ρ, σ11, rfl, rfl, H⟩
  refine q_then ?_
  refine cd_cond o1 rfl (fun hb12 => ?_) (fun hb12 => ?_)
  ·replace h := bif_t hb12 h
   refine c_seq (rg (sa (I (-1)) rfl (w_end (q_then (c_ret (q_then_r ?_))))))
   obtain rfl := sj h
   exact fin_ret (v := (I (-1))) (results_ok Tryz.results45 (res_tmp (v := (I (-1))) rfl res_nil) rfl) ⟨rfl, rfl⟩ (H.sel' [] rfl rfl)
  ·replace h := bif_f hb12 h
   refine c_skip (q_then (c_seq ?_))
   revert h; refine br fun xs13 hx14 h => ?_
   obtain ⟨hl18, hq19⟩ := garr_some hx14
   clear hx14 hq19
   obtain ⟨b15, o16, rfl, hc17⟩ := (H.ro 0 rfl).arr (Nat.lt_of_lt_of_le (by decide) hl18)
   revert h; refine br fun xs20 hx21 h => ?_
   obtain ⟨hl25, hq26⟩ := garr_some hx21
   clear hx21 hq26
   obtain ⟨b22, o23, rfl, hc24⟩ := (H.ro 1 rfl).arr (Nat.lt_of_lt_of_le (by decide) hl25)
   revert h; refine br fun r27 hx28 h => ?_
   have hc29 := c_impl_gapsOf (by rw [List.length_take]; have := hl18; omega) (by rw [List.length_take]; have := hl25; omega) hx28
   have Hs := H
   refine rg2 (σ := σ11) (Nm := Unit) 8 [7] [[false], [true]] [[(0, 0), (1, 1)], [(0, 0)], [(0, 0)], [(0, 0)], [(0, 0)], [(0, 0)], [(0, 0)], [(0, 1)]] 1 [fun _ => fun σm => Hp S0 σ0 σm [Ch.ro 0 (Sl (some ⟨b15, o16, none⟩) Bd Bg) Bd, Ch.ro 0 (Sl (some ⟨b22, o23, none⟩) Be Bi) Be] ∧ Md (cov []) σ11 σm, fun _ => fun σm => Hp S0 σ0 σm [Ch.ro 0 (Sl (some ⟨b15, o16, none⟩) Bd Bg) Bd, Ch.ro 0 (Sl (some ⟨b22, o23, none⟩) Be Bi) Be] ∧ Md (cov []) σ11 σm ∧ r27.length = 4] [fun _ => (I Aw), fun _ => (Sl (some ⟨b15, o16, none⟩) Bd Bg), fun _ => (.pointer (some ⟨b15, o16, none⟩)), fun _ => (.agg (List.map I (List.take 4 Bd)).toArray), fun _ => (Sl (some ⟨b22, o23, none⟩) Be Bi), fun _ => (.pointer (some ⟨b22, o23, none⟩)), fun _ => (.agg (List.map I (List.take 4 Be)).toArray), fun _ => (.agg (List.map I r27).toArray)] () (by kernel_rfl) (by kernel_rfl) ?_ ?_ ?_
   ·intro σm m0
    exact ⟨H.grow (m0.mono fun _ h => h.elim), m0⟩
   ·refine ac rfl (by
      intro k _nm ρ σm hJ hoff hdep
      have e0 := look_off (N := 24) (hoff 0 rfl) rfl
      exact dp_v (v := (I Aw)) wn (rv_move e0) rfl hJ) ?_
    refine ac rfl (by
      intro k _nm ρ σm hJ hoff hdep
      have e1 := look_off (N := 24) (hoff 1 rfl) rfl
      exact dp_v (v := (Sl (some ⟨b15, o16, none⟩) Bd Bg)) wn (rv_move e1) rfl hJ) ?_
    refine ac rfl (by
      intro k _nm ρ σm hJ hoff hdep
      have e16 := hdep 1 rfl rfl 16 rfl
      exact dp_v (v := (.pointer (some ⟨b15, o16, none⟩))) wn (rv_arrPtr Tryz.underlying81 e16 hl18) rfl hJ) ?_
    refine all_cons (by
      refine ⟨?_, ?_⟩
      ·intro _nm ρ σm hJ hoff hdep
       have e17 := hdep 2 rfl rfl 17 rfl
       obtain ⟨H, m⟩ := id hJ
       replace hc17 := (Hs.ro 0 rfl).arr_md hc17 m
       exact dp_v (v := (.agg (List.map I (List.take 4 Bd)).toArray)) wn (rv_load (cs := List.map I (List.take 4 Bd)) Tryz.underlying81 rfl ti81 e17 (by rw [List.length_map, List.length_take]; have := hl18; omega) (arr_take hc17)) rfl hJ
      trivial) ?_
    refine ac rfl (by
      intro k _nm ρ σm hJ hoff hdep
      have e2 := look_off (N := 24) (hoff 2 rfl) rfl
      exact dp_v (v := (Sl (some ⟨b22, o23, none⟩) Be Bi)) wn (rv_move e2) rfl hJ) ?_
    refine ac rfl (by
      intro k _nm ρ σm hJ hoff hdep
      have e19 := hdep 4 rfl rfl 19 rfl
      exact dp_v (v := (.pointer (some ⟨b22, o23, none⟩))) wn (rv_arrPtr Tryz.underlying81 e19 hl25) rfl hJ) ?_
    refine all_cons (by
      refine ⟨?_, ?_⟩
      ·intro _nm ρ σm hJ hoff hdep
       have e20 := hdep 5 rfl rfl 20 rfl
       obtain ⟨H, m⟩ := id hJ
       replace hc24 := (Hs.ro 1 rfl).arr_md hc24 m
       exact dp_v (v := (.agg (List.map I (List.take 4 Be)).toArray)) wn (rv_load (cs := List.map I (List.take 4 Be)) Tryz.underlying81 rfl ti81 e20 (by rw [List.length_map, List.length_take]; have := hl25; omega) (arr_take hc24)) rfl hJ
      trivial) ?_
    refine all_cons (by
      refine ⟨?_, ?_⟩
      ·intro _nm ρ σm hJ hoff hdep
       have e18 : look 24 ρ 18 = (.agg (List.map I (List.take 4 Bd)).toArray) := hdep 3 rfl rfl 18 rfl
       have e21 : look 24 ρ 21 = (.agg (List.map I (List.take 4 Be)).toArray) := hdep 6 rfl rfl 21 rfl
       obtain ⟨H, m⟩ := id hJ
       refine dp_cx wn (cx_call hc29 (ent_f hc29.fn (by show [look 24 ρ 18, look 24 ρ 21] = _; rw [e18, e21])) hn0 (H.sel' [0, 1] rfl rfl : Hp S0 σ0 _ ([] ++ _))) ?_
       rintro _ σq ⟨_, ⟨rfl, rfl, hl30⟩, H2, m2⟩
       exact ⟨_, (), rfl, rfl, ⟨H2.sel' [0, 1] rfl rfl, m.comp0 m2, hl30⟩, stab [0, 1, 2, 3, 4, 5, 6] (by kernel_rfl) ⟨rfl, rfl, rfl, rfl, rfl, rfl, rfl, trivial⟩⟩
      trivial) ?_
    exact all_nil
   ·intro _nm ρ σ31 hJ hoff hrel
    have e15 := hrel 0 rfl 15 rfl
    have e22 := hrel 7 rfl 22 rfl
    obtain ⟨H, -, hl30⟩ := (show Hp S0 σ0 σ31 [Ch.ro 0 (Sl (some ⟨b15, o16, none⟩) Bd Bg) Bd, Ch.ro 0 (Sl (some ⟨b22, o23, none⟩) Be Bi) Be] ∧ Md (cov []) σ11 σ31 ∧ r27.length = 4 from hJ)
    clear hJ Hs
    rw [fr_lookL (L := [(15, (I Aw)), (22, (.agg (List.map I r27).toArray))]) ⟨e15, e22, trivial⟩]
    clear hoff hrel e15 e22
    revert h; refine br fun r32 hx33 h => ?_
    have hc34 := c_impl_distanceOf hl30 hx33
    refine st_call (cx_call hc34 (ent_f hc34.fn rfl) hn0 (H.sel' [0, 1] rfl rfl : Hp S0 σ0 _ ([] ++ _))) wn ?_
    rintro _ σ35 ⟨_, ⟨rfl, rfl⟩, H, -⟩
    replace H : Hp _ _ _ [_, _] := H
    refine sa (I r32) rfl (w_end (q_then (c_ret ?_)))
    obtain rfl := sj h
    exact fin_ret (v := (I r32)) (results_ok Tryz.results45 (res_tmp (v := (I r32)) rfl res_nil) rfl) ⟨rfl, rfl⟩ (H.sel' [] rfl rfl)

theorem c_impl_hitOf {As : Int × (List Int) × Int} {Ax : Int} {Ay : List Int} {Au : Option Addr} {Av : Nat} {Az : Option Addr} {Ba : Nat} {r : (Int × Int)} (h : M.impl_hitOf As Ax Ay = some r) :
    Cal2 Tryz.prog 26 [(.agg #[(I As.1), (Sl Au As.2.1 Av), (I As.2.2)]), (I Ax), (Sl Az Ay Ba)] [Ch.ro 0 (Sl Au As.2.1 Av) As.2.1, Ch.ro 0 (Sl Az Ay Ba) Ay] (fun n0 v L => v = (.agg #[(I r.1), (I r.2)]) ∧ L = []) := by
 refine cal2 (n := 15) Tryz.func26 rfl rfl rfl rfl ?_
 intro S0 σ0 n0 hn0 H
 unfold M.impl_hitOf at h
 refine c_seq (rg (st_ex (ex_box (cs := [(I As.1), (Sl Au As.2.1 Av), (I As.2.2)]) H hn0 rfl rfl) wn ?_))
 rintro _ σ2 ⟨b1, rfl, H, -⟩
 refine st_ex (ex_alloc (cs := [(I 0), (I 0)]) H hn0 ti43 rfl) wn ?_
 rintro _ σ4 ⟨b3, rfl, H, -⟩
 refine w_end (q_then (c_seq ?_))
 have hc5 := H.cell (u := (I As.1)) (o' := 0) 1 0 rfl rfl rfl
 have hc6 := H.cell (u := (Sl Au As.2.1 Av)) (o' := 1) 1 1 rfl rfl rfl
 revert h; refine br fun r7 hx8 h => ?_
 have hc9 := c_impl_Distance (Bf := Au) (Bg := Av) (Bh := Az) (Bi := Ba) hx8
 have Hs := H
 refine rg2 (σ := σ4) (Nm := Unit) 7 [6] [[false], [true]] [[(0, 0), (1, 1)], [(0, 0), (1, 1)], [(0, 0)], [(0, 0)], [(0, 0)], [(0, 0)], [(0, 1)]] 1 [fun _ => fun σm => Hp S0 σ0 σm [Ch.bx n0 b3 0 [(I 0), (I 0)] [] [], Ch.bx n0 b1 0 [(I As.1), (Sl Au As.2.1 Av), (I As.2.2)] [] [], Ch.ro 0 (Sl Au As.2.1 Av) As.2.1, Ch.ro 0 (Sl Az Ay Ba) Ay] ∧ Md (cov []) σ4 σm, fun _ => fun σm => Hp S0 σ0 σm [Ch.bx n0 b3 0 [(I 0), (I 0)] [] [], Ch.bx n0 b1 0 [(I As.1), (Sl Au As.2.1 Av), (I As.2.2)] [] [], Ch.ro 0 (Sl Au As.2.1 Av) As.2.1, Ch.ro 0 (Sl Az Ay Ba) Ay] ∧ Md (cov []) σ4 σm] [fun _ => (pt b1 0), fun _ => (I As.1), fun _ => (I Ax), fun _ => (pt b1 1), fun _ => (Sl Au As.2.1 Av), fun _ => (Sl Az Ay Ba), fun _ => (I r7)] () (by kernel_rfl) (by kernel_rfl) ?_ ?_ ?_
 ·intro σm m0
  exact ⟨H.grow (m0.mono fun _ h => h.elim), m0⟩
 ·refine ac rfl (by
    intro k _nm ρ σm hJ hoff hdep
    have e3 := look_off (N := 15) (hoff 3 rfl) rfl
    exact dp_v (v := (pt b1 0)) wn (rv_fieldAddr (off := 0) (ft := 3) Tryz.underlying45 rfl ti3 rfl e3) rfl hJ) ?_
  refine all_cons (by
    refine ⟨?_, ?_⟩
    ·intro _nm ρ σm hJ hoff hdep
     have e7 := hdep 0 rfl rfl 7 rfl
     obtain ⟨H, m⟩ := id hJ
     have hc5 := H.cell (u := (I As.1)) (o' := 0) 1 0 rfl rfl rfl
     exact dp_v (v := (I As.1)) wn (rv_load1 Tryz.underlying3 rfl e7 hc5) rfl hJ
    refine ⟨?_, ?_⟩
    ·intro _nm ρ σm hJ hoff hdep
     have e7 := hdep 0 rfl rfl 7 rfl
     obtain ⟨H, m⟩ := id hJ
     have hc5 := H.cell (u := (I As.1)) (o' := 0) 1 0 rfl rfl rfl
     exact dp_v (v := (I As.1)) wn (rv_load1 Tryz.underlying3 rfl e7 hc5) rfl hJ
    trivial) ?_
  refine ac rfl (by
    intro k _nm ρ σm hJ hoff hdep
    have e1 := look_off (N := 15) (hoff 1 rfl) rfl
    exact dp_v (v := (I Ax)) wn (rv_move e1) rfl hJ) ?_
  refine ac rfl (by
    intro k _nm ρ σm hJ hoff hdep
    have e3 := look_off (N := 15) (hoff 3 rfl) rfl
    exact dp_v (v := (pt b1 1)) wn (rv_fieldAddr (off := 1) (ft := 23) Tryz.underlying45 rfl ti23 rfl e3) rfl hJ) ?_
  refine all_cons (by
    refine ⟨?_, ?_⟩
    ·intro _nm ρ σm hJ hoff hdep
     have e10 := hdep 3 rfl rfl 10 rfl
     obtain ⟨H, m⟩ := id hJ
     have hc6 := H.cell (u := (Sl Au As.2.1 Av)) (o' := 1) 1 1 rfl rfl rfl
     exact dp_v (v := (Sl Au As.2.1 Av)) wn (rv_load1 Tryz.underlying23 rfl e10 hc6) rfl hJ
    trivial) ?_
  refine ac rfl (by
    intro k _nm ρ σm hJ hoff hdep
    have e2 := look_off (N := 15) (hoff 2 rfl) rfl
    exact dp_v (v := (Sl Az Ay Ba)) wn (rv_move e2) rfl hJ) ?_
  refine all_cons (by
    refine ⟨?_, ?_⟩
    ·intro _nm ρ σm hJ hoff hdep
     have e9 : look 15 ρ 9 = (I Ax) := hdep 2 rfl rfl 9 rfl
     have e11 : look 15 ρ 11 = (Sl Au As.2.1 Av) := hdep 4 rfl rfl 11 rfl
     have e12 : look 15 ρ 12 = (Sl Az Ay Ba) := hdep 5 rfl rfl 12 rfl
     obtain ⟨H, m⟩ := id hJ
     refine dp_cx wn (cx_call hc9 (ent_f hc9.fn (by show [look 15 ρ 9, look 15 ρ 11, look 15 ρ 12] = _; rw [e9, e11, e12])) hn0 (H.sel' [2, 3, 0, 1, 2, 3] rfl rfl : Hp S0 σ0 _ ([_, _] ++ _))) ?_
     rintro _ σq ⟨_, ⟨rfl, rfl⟩, H2, m2⟩
     exact ⟨_, (), rfl, rfl, ⟨H2.sel' [0, 1, 2, 3] rfl rfl, m.comp0 (m2.mono (fun i h => by simp [cov, Ch.ro] at h))⟩, stab [0, 1, 2, 3, 4, 5] (by kernel_rfl) ⟨rfl, rfl, rfl, rfl, rfl, rfl, trivial⟩⟩
    trivial) ?_
  exact all_nil
 ·intro _nm ρ σ10 hJ hoff hrel
  have e6 := look_off (N := 15) (hoff 6 rfl) rfl
  have e8 := hrel 1 rfl 8 rfl
  have e13 := hrel 6 rfl 13 rfl
  obtain ⟨H, -⟩ := (show Hp S0 σ0 σ10 [Ch.bx n0 b3 0 [(I 0), (I 0)] [] [], Ch.bx n0 b1 0 [(I As.1), (Sl Au As.2.1 Av), (I As.2.2)] [] [], Ch.ro 0 (Sl Au As.2.1 Av) As.2.1, Ch.ro 0 (Sl Az Ay Ba) Ay] ∧ Md (cov []) σ4 σ10 from hJ)
  clear hJ Hs
  rw [fr_lookL (L := [(6, (pt b3 0)), (8, (I As.1)), (13, (I r7))]) ⟨e6, e8, e13, trivial⟩]
  clear hoff hrel e6 e8 e13
  refine st (v := (.agg #[(I As.1), (I r7)])) (rv_build (ps := [(0, (I As.1)), (1, (I r7))]) Tryz.underlying43 ti43 (bp43 Tryz.underlying43) rfl (by kernel_rfl)) ?_
  refine st_exS (ex_store_box (k := 0) (cs := [(I 0), (I 0)]) (vs := [(I As.1), (I r7)]) (cs' := [(I As.1), (I r7)]) H (i := 0) rfl ti43 rfl rfl rfl rfl rfl (Nat.le_of_ble_eq_true rfl) (by simp [plain]) rfl) wn ?_
  rintro σ11 ⟨H, -⟩
  refine w_end (q_then (c_ret ?_))
  obtain rfl := sj h
  exact fin_ret (v := (.agg #[(I As.1), (I r7)])) (results_ok Tryz.results26 (res_cell rfl (run_cellRes (cs := [(I As.1), (I r7)]) Tryz.underlying43 rfl ti43 rfl (H.cells 0 rfl)) res_nil) rfl) ⟨rfl, rfl⟩ (H.sel' [] rfl rfl)

theorem c_cmp_Or_int {Cq : List Int} {Cr : Option Addr} {Cs : Nat} {r : Int} (h : M.cmp_Or_int Cq = some r) :
    Cal2 Tryz.prog 48 [(Sl Cr Cq Cs)] [Ch.ro 0 (Sl Cr Cq Cs) Cq] (fun n0 v L => v = (I r) ∧ L = []) := by
 refine cal2 (n := 18) Tryz.func48 rfl rfl rfl rfl ?_
 intro S0 σ0 n0 hn0 H
 unfold M.cmp_Or_int at h
 refine c_seq (rg (sa (I 0) rfl (w_end (q_then (c_seq (rg (sa (I 0) rfl (w_end (q_then (c_seq (c_seq ?_)))))))))))
 refine rg (sm (Sl Cr Cq Cs) rfl (st (v := (I (Cq.length : Int))) (rv_len Tryz.underlying23 rfl) (sm (I 0) rfl (w_end (q_then ?_)))))
 obtain ⟨o1, hj, h'⟩ := bind_some h
 clear h
 refine c_cut (fun e a w => (∃ t, o1 = (.inl t) ∧ e = .normal ∧ ∃ (ρ : Nat → Value) (σ : St), a = fr 18 (updL ρ [(3, (I 0))]) ∧ w = σ.w ∧ Hp S0 σ0 σ []) ∨ (∃ t, o1 = (.inr t) ∧ e = .ret ∧ ∃ (ρ : Nat → Value) (σ : St), a = fr 18 (updL ρ [(2, (I t))]) ∧ w = σ.w ∧ Hp S0 σ0 σ [])) ?_ ?_
 ·clear h'
  rename _ = some o1 => h
  refine c_blk (wp_loopM _ h (fun s2 a w => ∃ (ρ : Nat → Value) (σ : St), a = fr 18 (updL ρ [(3, (I 0)), (6, (Sl Cr Cq Cs)), (7, (I (Cq.length : Int))), (8, (I s2))]) ∧ w = σ.w ∧ Hp S0 σ0 σ [Ch.ro 0 (Sl Cr Cq Cs) Cq]) ⟨_, σ0, fr_join ⟨rfl, rfl, rfl, rfl, trivial⟩, rfl, H.sel' [0] rfl rfl⟩ ?_)
  clear h H
  rintro s2 a w o ⟨ρ, σ3, rfl, rfl, H⟩ h hres
  refine c_seq (rg (st (v := (B (decide (s2 < (Cq.length : Int))))) (rv_lss (a := s2) (b := (Cq.length : Int)) rfl rfl) (w_end (q_then (c_seq ?_)))))
  refine cd_cond (decide (s2 < (Cq.length : Int))) rfl (fun hb4 => ?_) (fun hb4 => ?_)
  ·replace h := bif_t hb4 h
   refine c_skip (q_then (c_seq (c_blk (c_seq (rg ?_)))))
   revert h; refine br fun x5 hx6 h => ?_
   obtain ⟨b8, o9, hi7, -⟩ := (H.ro 0 rfl).ix hx6
   refine st (v := (pt b8 o9)) (rv_ix Tryz.underlying23 ti3 rfl rfl hi7) ?_
   have hc10 := ((H.ro 0 rfl).at hx6 hi7).int
   refine st (v := (I x5)) (rv_load1 Tryz.underlying3 rfl rfl hc10) (sa (I x5) rfl (w_end (q_then (c_seq (rg (sm (I x5) rfl (sm (I 0) rfl (st (v := (B (x5 != 0))) (rv_neq (a := x5) (b := 0) rfl rfl) (w_end (q_then ?_))))))))))
   refine cd_cond (x5 != 0) rfl (fun hb11 => ?_) (fun hb11 => ?_)
   ·replace h := bif_t hb11 h
    refine c_seq (rg (sm (I x5) rfl (sa (I x5) rfl (w_end (q_then (c_ret (q_blk_r (q_then_r (q_then_r (q_blk_r ?_))))))))))
    obtain rfl := sj h
    obtain rfl := hres _ rfl
    exact .inr (⟨_, rfl, rfl, _, σ3, fr_join ⟨rfl, trivial⟩, rfl, H.sel' [] rfl rfl⟩)
   ·replace h := bif_f hb11 h
    refine c_skip (q_blk (q_then (rg (st (v := (I (w64 (s2 + 1)))) (rv_add (a := s2) (b := 1) rfl rfl) (sm (I (w64 (s2 + 1))) rfl (w_end (q_then ?_)))))))
    obtain rfl := sj h
    exact ⟨_, rfl, _, σ3, fr_join ⟨rfl, rfl, rfl, rfl, trivial⟩, rfl, H.sel' [0] rfl rfl⟩
  ·replace h := bif_f hb4 h
   refine c_exit (q_then_x (q_then_x (q_blk_hit ?_)))
   obtain rfl := sj h
   obtain rfl := hres _ rfl
   exact .inl ⟨_, rfl, rfl, _, σ3, fr_join ⟨rfl, trivial⟩, rfl, H.sel' [] rfl rfl⟩
 ·clear hj
  have h := h'
  clear h' H
  rintro e a w (⟨t12, rfl, rfl, ρ, σ13, rfl, rfl, H⟩ | ⟨t14, rfl, rfl, ρ, σ15, rfl, rfl, H⟩)
  ·replace h := selim_l h
   refine q_then (c_seq (rg (sm (I 0) rfl (sa (I 0) rfl (w_end (q_then (c_ret ?_)))))))
   obtain rfl := sj h
   exact fin_ret (v := (I 0)) (results_ok Tryz.results48 (res_tmp (v := (I 0)) rfl res_nil) rfl) ⟨rfl, rfl⟩ (H.sel' [] rfl rfl)
  ·replace h := selim_r h
   refine q_then_r ?_
   obtain rfl := sj h
   exact fin_ret (v := (I t14)) (results_ok Tryz.results48 (res_tmp (v := (I t14)) rfl res_nil) rfl) ⟨rfl, rfl⟩ (H.sel' [] rfl rfl)

end Go.Vs
