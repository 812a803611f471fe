/- The functions compute what their models say. -/
import Derived.Test.YtfcemgcmpcmgcabGreatDoorKExactRunSessionC1
set_option linter.unusedVariables false
set_option linter.unusedSimpArgs false
set_option maxRecDepth 20000
namespace Go.Vs
open Go Go.Proofs
attribute [local irreducible] Code.wp Code.wpIn wpList wpListIn wpQuiet Calls CallsIn

theorem c_spec_DropItem {Ak : List (Int × (List Int) × Int)} {Bb : Int} {Am : Option Addr} {Ao : Nat} {r : (List (Int × (List Int) × Int)) × Bool} (h : M.spec_DropItem Ak Bb = some r) :
    Cal2 Tryz.prog 34 [(Sl Am Ak Ao), (I Bb)] [Ch.ro 0 (Sl Am Ak Ao) Ak] (fun n0 v L => ∃ (az1 : Option Addr), ∃ (cz2 : Nat), v = (.tuple #[(Sl az1 r.1 cz2), (B r.2)]) ∧ L = [Ch.own n0 n0 (Sl az1 r.1 cz2) r.1]) := by
 refine cal2 (n := 40) Tryz.func34 rfl rfl rfl rfl ?_
 intro S0 σ0 n0 hn0 H
 unfold M.spec_DropItem at h
 refine c_seq (rg (sa (.slice none 0 0) rfl (sa (B false) rfl (w_end (q_then (c_seq (c_seq ?_)))))))
 obtain ⟨o1, hj, h'⟩ := bind_some h
 clear h
 refine c_cut (fun e a w => e = .normal ∧ ∃ (ρ : Nat → Value) (σ : St), a = fr 40 (updL ρ [(0, (Sl Am Ak Ao)), (1, (I Bb)), (16, (B o1))]) ∧ w = σ.w ∧ Hp S0 σ0 σ [Ch.ro 0 (Sl Am Ak Ao) Ak]) ?_ ?_
 ·clear h'
  rename _ = some o1 => h
  refine rg (sm (Sl Am Ak Ao) rfl ?_)
  revert h; refine br fun r2 hx3 h => ?_
  have hc4 := c_spec_validStore (Am := Am) (Ao := Ao) hx3
  refine st_call (cx_call hc4 (ent_f hc4.fn rfl) hn0 (H.sel' [0, 0] rfl rfl : Hp S0 σ0 _ ([_] ++ _))) wn ?_
  rintro _ σ5 ⟨_, ⟨rfl, rfl⟩, H, -⟩
  replace H : Hp _ _ _ [_] := H
  refine st (v := (B (!r2))) (rv_not rfl) (sm (B (!r2)) rfl ?_)
  rcases Bool.eq_false_or_eq_true (!r2) with hb6 | hb6
  ·replace h := bif_t hb6 h
   refine st_skip (congrArg some hb6) (st_skip (congrArg some hb6) (st_skip (congrArg some hb6) (st_skip (congrArg some hb6) (st (v := (B true)) (rv_pick_t (congrArg B hb6) rfl) (w_end ?_)))))
   obtain rfl := sj h
   exact ⟨rfl, _, σ5, fr_join ⟨rfl, rfl, rfl, trivial⟩, rfl, H.sel' [0] rfl rfl⟩
  ·replace h := bif_f hb6 h
   refine st_g (v := (Sl Am Ak Ao)) (congrArg some hb6) (rv_move rfl) (st_g (v := (I Bb)) (congrArg some hb6) (rv_move rfl) ?_)
   revert h; refine br fun r7 hx8 h => ?_
   have hc9 := c_spec_keyAt (Am := Am) (Ao := Ao) hx8
   refine st_call (cx_call hc9 (ent_f hc9.fn rfl) hn0 (H.sel' [0, 0] rfl rfl : Hp S0 σ0 _ ([_] ++ _))) (wanted_yes rfl (by exact (congrArg some hb6))) ?_
   rintro _ σ10 ⟨_, ⟨rfl, rfl⟩, H, -⟩
   replace H : Hp _ _ _ [_] := H
   refine st_g (v := (B (decide (r7 < 0)))) (congrArg some hb6) (rv_lss (a := r7) (b := 0) rfl rfl) (st (v := (B (decide (r7 < 0)))) (rv_pick_f (congrArg B hb6) rfl) (w_end ?_))
   obtain rfl := sj h
   exact ⟨rfl, _, σ10, fr_join ⟨rfl, rfl, rfl, trivial⟩, rfl, H.sel' [0] rfl rfl⟩
 ·clear hj
  have h := h'
  clear h' H
  rintro e a w ⟨rfl, ρ, σ11, rfl, rfl, H⟩
  refine q_then ?_
  refine cd_cond o1 rfl (fun hb12 => ?_) (fun hb12 => ?_)
  ·replace h := bif_t hb12 h
   refine c_seq (rg (sa (.slice none 0 0) rfl (sa (B false) rfl (w_end (q_then (c_ret (q_then_r ?_)))))))
   replace H := H.nilOwn (Int × (List Int) × Int) n0 n0
   obtain rfl := sj h
   exact fin_ret (v := (.tuple #[(.slice none 0 0), (B false)])) (results_ok Tryz.results34 (res_tmp (v := (.slice none 0 0)) rfl (res_tmp (v := (B false)) rfl res_nil)) rfl) ⟨none, 0, rfl, rfl⟩ (H.sel' [0] rfl rfl)
  ·replace h := bif_f hb12 h
   refine c_skip (q_then (c_seq (rg ?_)))
   refine st_ex (ex_buildSlice (el := n0) (xs := ([] : List (Int × (List Int) × Int))) (ps := []) (cs := []) H hn0 Tryz.underlying29 ti67 rfl rfl (by kernel_rfl) (.nil) rfl) wn ?_
   rintro _ σ14 ⟨b13, rfl, H, -⟩
   refine sa (Sl (some ⟨b13, 0, none⟩) ([] : List (Int × (List Int) × Int)) 0) rfl (w_end (q_then (c_seq (c_seq (rg (sa (I 0) rfl (w_end (q_then ?_))))))))
   obtain ⟨o15, hj, h'⟩ := bind_some h
   clear h
   refine c_cut (fun e a w => e = .normal ∧ ∃ (ρ : Nat → Value) (σ : St) (aj1 : Option Addr) (cj2 : Nat), a = fr 40 (updL ρ [(6, (Sl aj1 o15 cj2))]) ∧ w = σ.w ∧ Hp S0 σ0 σ [Ch.own n0 n0 (Sl aj1 o15 cj2) o15]) ?_ ?_
   ·clear h'
    rename _ = some o15 => h
    refine c_blk (wp_loopM _ h (fun s16 a w => ∃ (ρ : Nat → Value) (σ : St) (aj1 : Option Addr) (cj2 : Nat), a = fr 40 (updL ρ [(0, (Sl Am Ak Ao)), (1, (I Bb)), (6, (Sl aj1 s16.1 cj2)), (7, (I s16.2))]) ∧ w = σ.w ∧ Hp S0 σ0 σ [Ch.ro 0 (Sl Am Ak Ao) Ak, Ch.own n0 n0 (Sl aj1 s16.1 cj2) s16.1]) ⟨_, σ14, (some ⟨b13, 0, none⟩), 0, fr_join ⟨rfl, rfl, rfl, rfl, trivial⟩, rfl, H.sel' [1, 0] rfl rfl⟩ ?_)
    clear h H
    rintro s16 a w o ⟨ρ, σ17, a18, c19, rfl, rfl, H⟩ h hres
    refine c_seq (c_seq (rg (sm (I s16.2) rfl (sm (Sl Am Ak Ao) rfl (st (v := (I (Ak.length : Int))) (rv_len Tryz.underlying29 rfl) (st (v := (B (decide (s16.2 < (Ak.length : Int))))) (rv_lss (a := s16.2) (b := (Ak.length : Int)) rfl rfl) (w_end (q_then ?_))))))))
    refine cd_cond (decide (s16.2 < (Ak.length : Int))) rfl (fun hb20 => ?_) (fun hb20 => ?_)
    ·replace h := bif_t hb20 h
     refine c_skip (q_then (c_seq ?_))
     obtain ⟨o21, hj, h'⟩ := bind_some h
     clear h
     refine c_cut (fun e a w => e = .normal ∧ ∃ (ρ : Nat → Value) (σ : St) (aj1 : Option Addr) (cj2 : Nat), a = fr 40 (updL ρ [(0, (Sl Am Ak Ao)), (1, (I Bb)), (6, (Sl aj1 o21 cj2)), (7, (I s16.2))]) ∧ w = σ.w ∧ Hp S0 σ0 σ [Ch.ro 0 (Sl Am Ak Ao) Ak, Ch.own n0 n0 (Sl aj1 o21 cj2) o21]) ?_ ?_
     ·clear h'
      rename _ = some o21 => h
      refine c_blk (c_seq (rg (sm (Sl Am Ak Ao) rfl (sm (I s16.2) rfl ?_))))
      revert h; refine br fun x22 hx23 h => ?_
      obtain ⟨b25, o26, hi24, -⟩ := (H.ro 0 rfl).ix hx23
      refine st (v := (pt b25 o26)) (rv_ix Tryz.underlying29 ti67 rfl rfl hi24) (st (v := (pt b25 (o26 + 0))) (rv_fieldAddr (off := 0) (ft := 3) Tryz.underlying67 rfl ti3 rfl rfl) ?_)
      have hc27 := ((H.ro 0 rfl).at hx23 hi24).fst.int
      refine st (v := (I x22.1)) (rv_load1 Tryz.underlying3 rfl rfl hc27) (sm (I Bb) rfl (st (v := (B (x22.1 != Bb))) (rv_neq (a := x22.1) (b := Bb) rfl rfl) (w_end (q_then ?_))))
      refine cd_cond (x22.1 != Bb) rfl (fun hb28 => ?_) (fun hb28 => ?_)
      ·replace h := bif_t hb28 h
       refine rg (sm (Sl a18 s16.1 c19) rfl (sm (Sl Am Ak Ao) rfl (sm (I s16.2) rfl ?_)))
       revert h; refine br fun x29 hx30 h => ?_
       obtain ⟨b32, o33, hi31, -⟩ := (H.ro 0 rfl).ix hx30
       refine st (v := (pt b32 o33)) (rv_ix Tryz.underlying29 ti67 rfl rfl hi31) ?_
       obtain ⟨_, ⟨_, _, rfl, rfl, ⟨_, _, rfl, ⟨_, rfl, hR38⟩, rfl⟩⟩, hl34, hc35⟩ := ((H.ro 0 rfl).at hx30 hi31).cells
       obtain ⟨a36, c37, rfl⟩ := hR38.isSl
       replace H := H.add (d := Ch.ro 0 (Sl a36 x29.2.1 c37) x29.2.1) hR38 (fun _ h => h)
       clear hR38
       refine st (v := (.agg #[(I x29.1), (Sl a36 x29.2.1 c37), (I x29.2.2)])) (rv_load Tryz.underlying67 rfl ti67 rfl hl34 hc35) ?_
       revert h; refine br fun r39 hx40 h => ?_
       have hc41 := c_spec_copyItem (Av := a36) (Aw := c37) hx40
       refine st_call (cx_call hc41 (ent_f hc41.fn rfl) hn0 (H.sel' [0, 0, 1, 2] rfl rfl : Hp S0 σ0 _ ([_] ++ _))) wn ?_
       rintro _ σ44 ⟨_, ⟨a42, c43, rfl, rfl⟩, H, -⟩
       replace H : Hp _ _ _ [_, _, _, _] := H
       obtain ⟨σ45, hw46, H, -⟩ := H.pub 0 rfl (Nat.le_refl _)
       rw [← hw46]; clear hw46
       refine st_ex (ex_buildSlice (el := n0) (xs := ([(r39.1, r39.2.1, r39.2.2)] : List (Int × (List Int) × Int))) (ps := [(0, (.agg #[(I r39.1), (Sl a42 r39.2.1 c43), (I r39.2.2)]))]) (cs := [(I r39.1), (Sl a42 r39.2.1 c43), (I r39.2.2)]) H hn0 Tryz.underlying29 ti67 rfl rfl (by kernel_rfl) (.cons (c := [(I r39.1), (Sl a42 r39.2.1 c43), (I r39.2.2)]) ⟨[(I r39.1)], [(Sl a42 r39.2.1 c43), (I r39.2.2)], rfl, rfl, ⟨[(Sl a42 r39.2.1 c43)], [(I r39.2.2)], rfl, ⟨_, rfl, (H.ro 0 rfl)⟩, rfl⟩⟩ (.nil)) rfl) wn ?_
       rintro _ σ48 ⟨b47, rfl, H, -⟩
       revert h; refine br fun xs49 hx50 h => ?_
       refine st_ex (ex_append H (i := 4) rfl Tryz.underlying29 Tryz.underlying29 ti67 rfl rfl (by decide) (H.own 0 rfl).rd hx50 hn0 rfl rfl) wn ?_
       rintro _ σ53 ⟨a51, c52, rfl, H, -⟩
       refine sa (Sl a51 xs49 c52) rfl (w_end (q_blk ?_))
       obtain rfl := sj h
       exact ⟨rfl, _, σ53, a51, c52, fr_join ⟨rfl, rfl, rfl, rfl, trivial⟩, rfl, H.sel' [4, 0] rfl rfl⟩
      ·replace h := bif_f hb28 h
       refine c_skip (q_blk ?_)
       obtain rfl := sj h
       exact ⟨rfl, _, σ17, a18, c19, fr_join ⟨rfl, rfl, rfl, rfl, trivial⟩, rfl, H.sel' [0, 1] rfl rfl⟩
     ·clear hj
      have h := h'
      clear h' H
      rintro e a w ⟨rfl, ρ, σ54, a55, c56, rfl, rfl, H⟩
      refine q_then (rg (sm (I s16.2) rfl (st (v := (I (w64 (s16.2 + 1)))) (rv_add (a := s16.2) (b := 1) rfl rfl) (sa (I (w64 (s16.2 + 1))) rfl (w_end (q_then ?_))))))
      obtain rfl := sj h
      exact ⟨_, rfl, _, σ54, a55, c56, fr_join ⟨rfl, rfl, rfl, rfl, trivial⟩, rfl, H.sel' [0, 1] rfl rfl⟩
    ·replace h := bif_f hb20 h
     refine c_exit (q_then_x (q_then_x (q_blk_hit ?_)))
     obtain rfl := sj h
     obtain rfl := hres _ rfl
     exact ⟨rfl, _, σ17, a18, c19, fr_join ⟨rfl, trivial⟩, rfl, H.sel' [1] rfl rfl⟩
   ·clear hj
    have h := h'
    clear h' H
    rintro e a w ⟨rfl, ρ, σ57, a58, c59, rfl, rfl, H⟩
    refine q_then (c_seq (rg (sm (Sl a58 o15 c59) rfl (sa (Sl a58 o15 c59) rfl (sa (B true) rfl (w_end (q_then (c_ret ?_))))))))
    obtain rfl := sj h
    exact fin_ret (v := (.tuple #[(Sl a58 o15 c59), (B true)])) (results_ok Tryz.results34 (res_tmp (v := (Sl a58 o15 c59)) rfl (res_tmp (v := (B true)) rfl res_nil)) rfl) ⟨a58, c59, rfl, rfl⟩ (H.sel' [0] rfl rfl)

theorem c_spec_desk_drop {Ba : (List (Int × (List Int) × Int)) × Int} {Bb : Int} {Be : Option Addr} {Bf : Nat} {Bg Bh Bi : Nat} {Bj Bk : List Value} {r : ByteArray × ((List (Int × (List Int) × Int)) × Int)} (h : M.spec_desk_drop Ba Bb = some r) :
    Cal2 Tryz.prog 19 [(pt Bh Bi), (I Bb)] [Ch.bx Bg Bh Bi [(Sl Be Ba.1 Bf), (I Ba.2)] Bj Bk, Ch.ro 0 (Sl Be Ba.1 Bf) Ba.1] (fun n0 v L => ∃ (az1 : Option Addr), ∃ (cz2 : Nat), v = (.string r.1) ∧ L = [Ch.bx Bg Bh Bi [(Sl az1 r.2.1 cz2), (I r.2.2)] Bj Bk, Ch.ro 0 (Sl az1 r.2.1 cz2) r.2.1]) := by
 refine cal2 (n := 22) Tryz.func19 rfl rfl rfl rfl ?_
 intro S0 σ0 n0 hn0 H
 unfold M.spec_desk_drop at h
 refine c_seq (rg (sa (.string (ByteArray.mk #[])) rfl (w_end (q_then (c_seq (rg (sm (pt Bh Bi) rfl (st (v := (pt Bh Bi)) (rv_nilCheck rfl) (st (v := (pt Bh Bi)) (rv_fieldAddr (off := 0) (ft := 29) Tryz.underlying31 rfl ti29 rfl rfl) ?_)))))))))
 have hc1 := H.cell (u := (Sl Be Ba.1 Bf)) (o' := Bi) 0 0 rfl rfl rfl
 refine st (v := (Sl Be Ba.1 Bf)) (rv_load1 Tryz.underlying29 rfl rfl hc1) (sm (I Bb) rfl ?_)
 revert h; refine br fun r2 hx3 h => ?_
 have hc4 := c_spec_DropItem (Am := Be) (Ao := Bf) hx3
 refine st_call (cx_call hc4 (ent_f hc4.fn rfl) hn0 (H.sel' [1, 0, 1] rfl rfl : Hp S0 σ0 _ ([_] ++ _))) wn ?_
 rintro _ σ7 ⟨_, ⟨a5, c6, rfl, rfl⟩, H, -⟩
 replace H : Hp _ _ _ [_, _, _] := H
 refine sm (.tuple #[(Sl a5 r2.1 c6), (B r2.2)]) rfl (st (v := (Sl a5 r2.1 c6)) (rv_extract rfl rfl) (st (v := (B r2.2)) (rv_extract rfl rfl) (sa (Sl a5 r2.1 c6) rfl (sa (B r2.2) rfl (w_end (q_then (c_seq (c_seq (rg (sm (B r2.2) rfl (st (v := (B (!r2.2))) (rv_not rfl) ?_)))))))))))
 refine w_end (q_then ?_)
 refine cd_cond (!r2.2) rfl (fun hb8 => ?_) (fun hb8 => ?_)
 ·replace h := bif_t hb8 h
  refine c_seq (rg (sa (.string (ByteArray.mk #[110, 111])) rfl (w_end (q_then (c_ret (q_then_r ?_))))))
  obtain rfl := sj h
  exact fin_ret (v := (.string (ByteArray.mk #[110, 111]))) (results_ok Tryz.results19 (res_tmp (v := (.string (ByteArray.mk #[110, 111]))) rfl res_nil) rfl) ⟨Be, Bf, rfl, rfl⟩ (H.sel' [1, 2] rfl rfl)
 ·replace h := bif_f hb8 h
  refine c_skip (q_then (c_seq (rg (sm (pt Bh Bi) rfl (sm (Sl a5 r2.1 c6) rfl (st (v := (pt Bh Bi)) (rv_nilCheck rfl) (st (v := (pt Bh Bi)) (rv_fieldAddr (off := 0) (ft := 29) Tryz.underlying31 rfl ti29 rfl rfl) ?_)))))))
  refine st_exS (ex_store_box (k := 0) (cs := [(Sl Be Ba.1 Bf), (I Ba.2)]) (vs := [(Sl a5 r2.1 c6)]) (cs' := [(Sl a5 r2.1 c6), (I Ba.2)]) H (i := 1) rfl ti29 rfl rfl rfl rfl rfl (Nat.le_of_ble_eq_true rfl) (by simp [plain]) rfl) wn ?_
  rintro σ9 ⟨H, -⟩
  refine w_end (q_then (c_seq (rg (sa (.string (ByteArray.mk #[111, 107])) rfl (w_end (q_then (c_ret ?_)))))))
  obtain ⟨σ10, hw11, H, -⟩ := H.pub 1 rfl (Nat.le_refl _)
  rw [← hw11]; clear hw11
  replace H := H.roLow 0 0 rfl (Nat.zero_le _)
  obtain rfl := sj h
  exact fin_ret (v := (.string (ByteArray.mk #[111, 107]))) (results_ok Tryz.results19 (res_tmp (v := (.string (ByteArray.mk #[111, 107]))) rfl res_nil) rfl) ⟨a5, c6, rfl, rfl⟩ (H.sel' [2, 0] rfl rfl)

theorem c_spec_hitsText {Ak : List (Int × Int)} {Am : Option Addr} {Ao : Nat} {r : ByteArray} (h : M.spec_hitsText Ak = some r) :
    Cal2 Tryz.prog 37 [(Sl Am Ak Ao)] [Ch.ro 0 (Sl Am Ak Ao) Ak] (fun n0 v L => v = (.string r) ∧ L = []) := by
 refine cal2 (n := 32) Tryz.func37 rfl rfl rfl rfl ?_
 intro S0 σ0 n0 hn0 H
 unfold M.spec_hitsText at h
 refine c_seq (rg (sa (.string (ByteArray.mk #[])) rfl (w_end (q_then (c_seq (rg (sa (.string (ByteArray.mk #[])) rfl (w_end (q_then (c_seq (c_seq ?_)))))))))))
 refine rg (sa (I 0) rfl (w_end (q_then ?_)))
 obtain ⟨o1, hj, h'⟩ := bind_some h
 clear h
 refine c_cut (fun e a w => e = .normal ∧ ∃ (ρ : Nat → Value) (σ : St), a = fr 32 (updL ρ [(3, (.string o1))]) ∧ w = σ.w ∧ Hp S0 σ0 σ []) ?_ ?_
 ·clear h'
  rename _ = some o1 => h
  refine c_blk (wp_loopM _ h (fun s2 a w => ∃ (ρ : Nat → Value) (σ : St), a = fr 32 (updL ρ [(0, (Sl Am Ak Ao)), (3, (.string s2.1)), (4, (I s2.2))]) ∧ w = σ.w ∧ Hp S0 σ0 σ [Ch.ro 0 (Sl Am Ak Ao) Ak]) ⟨_, σ0, fr_join ⟨rfl, rfl, rfl, trivial⟩, rfl, H.sel' [0] rfl rfl⟩ ?_)
  clear h H
  rintro s2 a w o ⟨ρ, σ3, rfl, rfl, H⟩ h hres
  refine c_seq (c_seq (rg (sm (I s2.2) rfl (sm (Sl Am Ak Ao) rfl (st (v := (I (Ak.length : Int))) (rv_len Tryz.underlying74 rfl) (st (v := (B (decide (s2.2 < (Ak.length : Int))))) (rv_lss (a := s2.2) (b := (Ak.length : Int)) rfl rfl) (w_end (q_then ?_))))))))
  refine cd_cond (decide (s2.2 < (Ak.length : Int))) rfl (fun hb4 => ?_) (fun hb4 => ?_)
  ·replace h := bif_t hb4 h
   refine c_skip (q_then (c_seq (c_blk (c_seq (c_seq (rg (sm (I s2.2) rfl (st (v := (B (decide (0 < s2.2)))) (rv_gtr (a := s2.2) (b := 0) rfl rfl) (w_end (q_then ?_))))))))))
   obtain ⟨o5, hj, h'⟩ := bind_some h
   clear h
   refine c_cut (fun e a w => e = .normal ∧ ∃ (ρ : Nat → Value) (σ : St), a = fr 32 (updL ρ [(0, (Sl Am Ak Ao)), (3, (.string o5)), (4, (I s2.2))]) ∧ w = σ.w ∧ Hp S0 σ0 σ [Ch.ro 0 (Sl Am Ak Ao) Ak]) ?_ ?_
   ·clear h'
    rename _ = some o5 => h
    refine cd_cond (decide (0 < s2.2)) rfl (fun hb6 => ?_) (fun hb6 => ?_)
    ·replace h := bif_t hb6 h
     refine rg (sm (.string s2.1) rfl ?_)
     revert h; refine br fun s7 hx8 h => ?_
     refine st (v := (.string s7)) (rv_scat rfl rfl hx8) (sa (.string s7) rfl (w_end ?_))
     obtain rfl := sj h
     exact ⟨rfl, _, σ3, fr_join ⟨rfl, rfl, rfl, trivial⟩, rfl, H.sel' [0] rfl rfl⟩
    ·replace h := bif_f hb6 h
     refine c_skip ?_
     obtain rfl := sj h
     exact ⟨rfl, _, σ3, fr_join ⟨rfl, rfl, rfl, trivial⟩, rfl, H.sel' [0] rfl rfl⟩
   ·clear hj
    have h := h'
    clear h' H
    rintro e a w ⟨rfl, ρ, σ9, rfl, rfl, H⟩
    refine q_then ?_
    revert h; refine br fun x10 hx11 h => ?_
    obtain ⟨b13, o14, hi12, -⟩ := (H.ro 0 rfl).ix hx11
    have hc15 := ((H.ro 0 rfl).at hx11 hi12).fst.int
    revert h; refine br fun r16 hx17 h => ?_
    have hc18 := c_spec_decimal 100 hx17
    revert h; refine br fun s19 hx20 h => ?_
    revert h; refine br fun s21 hx22 h => ?_
    revert h; refine br fun x23 hx24 h => ?_
    obtain ⟨b26, o27, hi25, -⟩ := (H.ro 0 rfl).ix hx24
    have hc28 := ((H.ro 0 rfl).at hx24 hi25).snd.int
    revert h; refine br fun r29 hx30 h => ?_
    have hc31 := c_spec_decimal 100 hx30
    have Hs := H
    refine rg2 (σ := σ9) (Nm := Unit) 15 [6, 14] [[false, false], [true, false], [true, true]] [[(0, 0), (1, 1), (2, 2)], [(0, 0)], [(0, 0)], [(0, 0)], [(0, 0)], [(0, 0)], [(0, 1)], [(1, 1), (2, 2)], [(1, 1), (2, 2)], [(0, 0), (1, 1)], [(0, 0), (1, 1)], [(0, 0), (1, 1)], [(0, 0), (1, 1)], [(0, 0), (1, 1)], [(1, 2)]] 2 [fun _ => fun σm => Hp S0 σ0 σm [Ch.ro 0 (Sl Am Ak Ao) Ak] ∧ Md (cov []) σ9 σm, fun _ => fun σm => Hp S0 σ0 σm [Ch.ro 0 (Sl Am Ak Ao) Ak] ∧ Md (cov []) σ9 σm, fun _ => fun σm => Hp S0 σ0 σm [Ch.ro 0 (Sl Am Ak Ao) Ak] ∧ Md (cov []) σ9 σm] [fun _ => (.string o5), fun _ => (Sl Am Ak Ao), fun _ => (I s2.2), fun _ => (pt b13 o14), fun _ => (pt b13 (o14 + 0)), fun _ => (I x10.1), fun _ => (.string r16), fun _ => (.string s19), fun _ => (.string s21), fun _ => (Sl Am Ak Ao), fun _ => (I s2.2), fun _ => (pt b26 o27), fun _ => (pt b26 (o27 + 1)), fun _ => (I x23.2), fun _ => (.string r29)] () (by kernel_rfl) (by kernel_rfl) ?_ ?_ ?_
    ·intro σm m0
     exact ⟨H.grow (m0.mono fun _ h => h.elim), m0⟩
    ·refine ac rfl (by
       intro k _nm ρ σm hJ hoff hdep
       have e3 := look_off (N := 32) (hoff 3 rfl) rfl
       exact dp_v (v := (.string o5)) wn (rv_move e3) rfl hJ) ?_
     refine ac rfl (by
       intro k _nm ρ σm hJ hoff hdep
       have e0 := look_off (N := 32) (hoff 0 rfl) rfl
       exact dp_v (v := (Sl Am Ak Ao)) wn (rv_move e0) rfl hJ) ?_
     refine ac rfl (by
       intro k _nm ρ σm hJ hoff hdep
       have e4 := look_off (N := 32) (hoff 4 rfl) rfl
       exact dp_v (v := (I s2.2)) wn (rv_move e4) rfl hJ) ?_
     refine ac rfl (by
       intro k _nm ρ σm hJ hoff hdep
       have e16 := hdep 1 rfl rfl 16 rfl
       have e17 := hdep 2 rfl rfl 17 rfl
       exact dp_v (v := (pt b13 o14)) wn (rv_ix Tryz.underlying74 ti81 e16 e17 hi12) rfl hJ) ?_
     refine ac rfl (by
       intro k _nm ρ σm hJ hoff hdep
       have e18 := hdep 3 rfl rfl 18 rfl
       exact dp_v (v := (pt b13 (o14 + 0))) wn (rv_fieldAddr (off := 0) (ft := 3) Tryz.underlying81 rfl ti3 rfl e18) rfl hJ) ?_
     refine all_cons (by
       refine ⟨?_, ?_⟩
       ·intro _nm ρ σm hJ hoff hdep
        have e19 := hdep 4 rfl rfl 19 rfl
        obtain ⟨H, m⟩ := id hJ
        replace hc15 := (Hs.ro 0 rfl).hmd hx11 hi12 (k := 0) (by decide) hc15 m
        exact dp_v (v := (I x10.1)) wn (rv_load1 Tryz.underlying3 rfl e19 hc15) rfl hJ
       trivial) ?_
     refine all_cons (by
       refine ⟨?_, ?_⟩
       ·intro _nm ρ σm hJ hoff hdep
        have e20 : look 32 ρ 20 = (I x10.1) := hdep 5 rfl rfl 20 rfl
        obtain ⟨H, m⟩ := id hJ
        refine dp_cx wn (cx_call hc18 (ent_f hc18.fn (by show [look 32 ρ 20] = _; rw [e20])) hn0 (H.sel' [0] rfl rfl : Hp S0 σ0 _ ([] ++ _))) ?_
        rintro _ σq ⟨_, ⟨rfl, rfl⟩, H2, m2⟩
        exact ⟨_, (), rfl, rfl, ⟨H2.sel' [0] rfl rfl, m.comp0 m2⟩, stab [0, 1, 2, 3, 4, 5, 9, 10, 11, 12, 13] (by kernel_rfl) ⟨rfl, rfl, rfl, rfl, rfl, rfl, rfl, rfl, rfl, rfl, rfl, trivial⟩⟩
       trivial) ?_
     refine ac rfl (by
       intro k _nm ρ σm hJ hoff hdep
       have e15 := hdep 0 rfl rfl 15 rfl
       have e21 := hdep 6 rfl rfl 21 rfl
       exact dp_v (v := (.string s19)) wn (rv_scat e15 e21 hx20) rfl hJ) ?_
     refine ac rfl (by
       intro k _nm ρ σm hJ hoff hdep
       have e22 := hdep 7 rfl rfl 22 rfl
       exact dp_v (v := (.string s21)) wn (rv_scat e22 rfl hx22) rfl hJ) ?_
     refine ac rfl (by
       intro k _nm ρ σm hJ hoff hdep
       have e0 := look_off (N := 32) (hoff 0 rfl) rfl
       exact dp_v (v := (Sl Am Ak Ao)) wn (rv_move e0) rfl hJ) ?_
     refine ac rfl (by
       intro k _nm ρ σm hJ hoff hdep
       have e4 := look_off (N := 32) (hoff 4 rfl) rfl
       exact dp_v (v := (I s2.2)) wn (rv_move e4) rfl hJ) ?_
     refine ac rfl (by
       intro k _nm ρ σm hJ hoff hdep
       have e24 := hdep 9 rfl rfl 24 rfl
       have e25 := hdep 10 rfl rfl 25 rfl
       exact dp_v (v := (pt b26 o27)) wn (rv_ix Tryz.underlying74 ti81 e24 e25 hi25) rfl hJ) ?_
     refine ac rfl (by
       intro k _nm ρ σm hJ hoff hdep
       have e26 := hdep 11 rfl rfl 26 rfl
       exact dp_v (v := (pt b26 (o27 + 1))) wn (rv_fieldAddr (off := 1) (ft := 3) Tryz.underlying81 rfl ti3 rfl e26) rfl hJ) ?_
     refine all_cons (by
       refine ⟨?_, ?_⟩
       ·intro _nm ρ σm hJ hoff hdep
        have e27 := hdep 12 rfl rfl 27 rfl
        obtain ⟨H, m⟩ := id hJ
        replace hc28 := (Hs.ro 0 rfl).hmd hx24 hi25 (k := 1) (by decide) hc28 m
        exact dp_v (v := (I x23.2)) wn (rv_load1 Tryz.underlying3 rfl e27 hc28) rfl hJ
       refine ⟨?_, ?_⟩
       ·intro _nm ρ σm hJ hoff hdep
        have e27 := hdep 12 rfl rfl 27 rfl
        obtain ⟨H, m⟩ := id hJ
        replace hc28 := (Hs.ro 0 rfl).hmd hx24 hi25 (k := 1) (by decide) hc28 m
        exact dp_v (v := (I x23.2)) wn (rv_load1 Tryz.underlying3 rfl e27 hc28) rfl hJ
       trivial) ?_
     refine all_cons (by
       refine ⟨?_, ?_⟩
       ·intro _nm ρ σm hJ hoff hdep
        have e28 : look 32 ρ 28 = (I x23.2) := hdep 13 rfl rfl 28 rfl
        obtain ⟨H, m⟩ := id hJ
        refine dp_cx wn (cx_call hc31 (ent_f hc31.fn (by show [look 32 ρ 28] = _; rw [e28])) hn0 (H.sel' [0] rfl rfl : Hp S0 σ0 _ ([] ++ _))) ?_
        rintro _ σq ⟨_, ⟨rfl, rfl⟩, H2, m2⟩
        exact ⟨_, (), rfl, rfl, ⟨H2.sel' [0] rfl rfl, m.comp0 m2⟩, stab [0, 1, 2, 3, 4, 5, 6, 7, 8, 9, 10, 11, 12, 13] (by kernel_rfl) ⟨rfl, rfl, rfl, rfl, rfl, rfl, rfl, rfl, rfl, rfl, rfl, rfl, rfl, rfl, trivial⟩⟩
       trivial) ?_
     exact all_nil
    ·intro _nm ρ σ32 hJ hoff hrel
     have e0 := look_off (N := 32) (hoff 0 rfl) rfl
     have e4 := look_off (N := 32) (hoff 4 rfl) rfl
     have e23 := hrel 8 rfl 23 rfl
     have e29 := hrel 14 rfl 29 rfl
     obtain ⟨H, -⟩ := (show Hp S0 σ0 σ32 [Ch.ro 0 (Sl Am Ak Ao) Ak] ∧ Md (cov []) σ9 σ32 from hJ)
     clear hJ Hs
     rw [fr_lookL (L := [(0, (Sl Am Ak Ao)), (4, (I s2.2)), (23, (.string s21)), (29, (.string r29))]) ⟨e0, e4, e23, e29, trivial⟩]
     clear hoff hrel e0 e4 e23 e29
     revert h; refine br fun s33 hx34 h => ?_
     refine st (v := (.string s33)) (rv_scat rfl rfl hx34) (sa (.string s33) rfl (w_end (q_blk (q_then (rg (sm (I s2.2) rfl (st (v := (I (w64 (s2.2 + 1)))) (rv_add (a := s2.2) (b := 1) rfl rfl) (sa (I (w64 (s2.2 + 1))) rfl (w_end (q_then ?_))))))))))
     obtain rfl := sj h
     exact ⟨_, rfl, _, σ32, fr_join ⟨rfl, rfl, rfl, trivial⟩, rfl, H.sel' [0] rfl rfl⟩
  ·replace h := bif_f hb4 h
   refine c_exit (q_then_x (q_then_x (q_blk_hit ?_)))
   obtain rfl := sj h
   obtain rfl := hres _ rfl
   exact ⟨rfl, _, σ3, fr_join ⟨rfl, trivial⟩, rfl, H.sel' [] rfl rfl⟩
 ·clear hj
  have h := h'
  clear h' H
  rintro e a w ⟨rfl, ρ, σ35, rfl, rfl, H⟩
  refine q_then (c_seq (rg (sm (.string o1) rfl (sa (.string o1) rfl (w_end (q_then (c_ret ?_)))))))
  obtain rfl := sj h
  exact fin_ret (v := (.string o1)) (results_ok Tryz.results37 (res_tmp (v := (.string o1)) rfl res_nil) rfl) ⟨rfl, rfl⟩ (H.sel' [] rfl rfl)

theorem c_spec_size {Ah : Int}  {r : Int} (h : M.spec_size Ah = some r) :
    Cal2 Tryz.prog 60 [(I Ah)] [] (fun n0 v L => v = (I r) ∧ L = []) := by
 refine cal2 (n := 7) Tryz.func60 rfl rfl rfl rfl ?_
 intro S0 σ0 n0 hn0 H
 unfold M.spec_size at h
 refine c_seq (rg (sa (I 0) rfl (w_end (q_then (c_seq (rg (sm (I Ah) rfl (sm (I Ah) rfl (st (v := (I (w64 (0 - Ah)))) (rv_neg (a := Ah) rfl) (st (v := (I (max Ah (w64 (0 - Ah))))) (rv_max rfl rfl) (sa (I (max Ah (w64 (0 - Ah)))) rfl ?_)))))))))))
 refine w_end (q_then (c_ret ?_))
 obtain rfl := sj h
 exact fin_ret (v := (I (max Ah (w64 (0 - Ah))))) (results_ok Tryz.results60 (res_tmp (v := (I (max Ah (w64 (0 - Ah))))) rfl res_nil) rfl) ⟨rfl, rfl⟩ (H.sel' [] rfl rfl)

theorem c_spec_toInt {Bn : Bool}  {r : Int} (h : M.spec_toInt Bn = some r) :
    Cal2 Tryz.prog 61 [(B Bn)] [] (fun n0 v L => v = (I r) ∧ L = []) := by
 refine cal2 (n := 4) Tryz.func61 rfl rfl rfl rfl ?_
 intro S0 σ0 n0 hn0 H
 unfold M.spec_toInt at h
 refine c_seq (rg (sa (I 0) rfl (w_end (q_then (c_seq (c_seq (rg (sm (B Bn) rfl (w_end (q_then ?_))))))))))
 refine cd_cond Bn rfl (fun hb1 => ?_) (fun hb1 => ?_)
 ·replace h := bif_t hb1 h
  refine c_seq (rg (sa (I 1) rfl (w_end (q_then (c_ret (q_then_r ?_))))))
  obtain rfl := sj h
  exact fin_ret (v := (I 1)) (results_ok Tryz.results61 (res_tmp (v := (I 1)) rfl res_nil) rfl) ⟨rfl, rfl⟩ (H.sel' [] rfl rfl)
 ·replace h := bif_f hb1 h
  refine c_skip (q_then (c_seq (rg (sa (I 0) rfl (w_end (q_then (c_ret ?_)))))))
  obtain rfl := sj h
  exact fin_ret (v := (I 0)) (results_ok Tryz.results61 (res_tmp (v := (I 0)) rfl res_nil) rfl) ⟨rfl, rfl⟩ (H.sel' [] rfl rfl)

theorem c_spec_dist {Bo : Int} {Bp : List Int} {Bq : List Int} {Br : Option Addr} {Bs : Nat} {Bt : Option Addr} {Bu : Nat} {r : Int} (h : M.spec_dist Bo Bp Bq = some r) :
    Cal2 Tryz.prog 40 [(I Bo), (Sl Br Bp Bs), (Sl Bt Bq Bu)] [Ch.ro 0 (Sl Br Bp Bs) Bp, Ch.ro 0 (Sl Bt Bq Bu) Bq] (fun n0 v L => v = (I r) ∧ L = []) := by
 refine cal2 (n := 50) Tryz.func40 rfl rfl rfl rfl ?_
 intro S0 σ0 n0 hn0 H
 unfold M.spec_dist at h
 refine c_seq (rg (sa (I 0) rfl (w_end (q_then (c_seq (rg (sa (I 0) rfl (w_end (q_then (c_seq (c_seq ?_)))))))))))
 refine rg (sa (I 0) rfl (w_end (q_then ?_)))
 obtain ⟨o1, hj, h'⟩ := bind_some h
 clear h
 refine c_cut (fun e a w => e = .normal ∧ ∃ (ρ : Nat → Value) (σ : St), a = fr 50 (updL ρ [(7, (I o1))]) ∧ w = σ.w ∧ Hp S0 σ0 σ []) ?_ ?_
 ·clear h'
  rename _ = some o1 => h
  refine c_blk (wp_loopM _ h (fun s2 a w => ∃ (ρ : Nat → Value) (σ : St), a = fr 50 (updL ρ [(0, (I Bo)), (1, (Sl Br Bp Bs)), (2, (Sl Bt Bq Bu)), (7, (I s2.1)), (8, (I s2.2))]) ∧ w = σ.w ∧ Hp S0 σ0 σ [Ch.ro 0 (Sl Br Bp Bs) Bp, Ch.ro 0 (Sl Bt Bq Bu) Bq]) ⟨_, σ0, fr_join ⟨rfl, rfl, rfl, rfl, rfl, trivial⟩, rfl, H.sel' [0, 1] rfl rfl⟩ ?_)
  clear h H
  rintro s2 a w o ⟨ρ, σ3, rfl, rfl, H⟩ h hres
  refine c_seq (c_seq (rg (sm (I s2.2) rfl (sm (Sl Br Bp Bs) rfl (st (v := (I (Bp.length : Int))) (rv_len Tryz.underlying51 rfl) (st (v := (B (decide (s2.2 < (Bp.length : Int))))) (rv_lss (a := s2.2) (b := (Bp.length : Int)) rfl rfl) (w_end (q_then ?_))))))))
  refine cd_cond (decide (s2.2 < (Bp.length : Int))) rfl (fun hb4 => ?_) (fun hb4 => ?_)
  ·replace h := bif_t hb4 h
   refine c_skip (q_then (c_seq ?_))
   obtain ⟨o5, hj, h'⟩ := bind_some h
   clear h
   refine c_cut (fun e a w => e = .normal ∧ ∃ (ρ : Nat → Value) (σ : St), a = fr 50 (updL ρ [(0, (I Bo)), (1, (Sl Br Bp Bs)), (2, (Sl Bt Bq Bu)), (7, (I o5)), (8, (I s2.2))]) ∧ w = σ.w ∧ Hp S0 σ0 σ [Ch.ro 0 (Sl Br Bp Bs) Bp, Ch.ro 0 (Sl Bt Bq Bu) Bq]) ?_ ?_
   ·clear h'
    rename _ = some o5 => h
    refine c_blk (c_seq ?_)
    refine rgP (σ := σ3) 8 (by kernel_rfl) (by kernel_rfl) (by kernel_rfl) ?_
    refine sq (v := (Sl Br Bp Bs)) (rv_move rfl) (sq (v := (I s2.2)) (rv_move rfl) ?_)
    revert h; refine br fun x6 hx7 h => ?_
    obtain ⟨b9, o10, hi8, -⟩ := (H.ro 0 rfl).ix hx7
    refine sq (v := (pt b9 o10)) (rv_ix Tryz.underlying51 ti3 rfl rfl hi8) ?_
    have hc11 := ((H.ro 0 rfl).at hx7 hi8).int
    refine sq (v := (I x6)) (rv_load1 Tryz.underlying3 rfl rfl hc11) (sq (v := (Sl Bt Bq Bu)) (rv_move rfl) (sq (v := (I s2.2)) (rv_move rfl) ?_))
    revert h; refine br fun x12 hx13 h => ?_
    obtain ⟨b15, o16, hi14, -⟩ := (H.ro 1 rfl).ix hx13
    refine sq (v := (pt b15 o16)) (rv_ix Tryz.underlying51 ti3 rfl rfl hi14) ?_
    have hc17 := ((H.ro 1 rfl).at hx13 hi14).int
    refine sq (v := (I x12)) (rv_load1 Tryz.underlying3 rfl rfl hc17) (sq_end ?_)
    intro σ18 hm19
    replace H := H.grow (hm19.mono fun _ h => h); clear hm19
    refine st (v := (I (w64 (x6 - x12)))) (rv_sub (a := x6) (b := x12) rfl rfl) ?_
    revert h; refine br fun r20 hx21 h => ?_
    have hc22 := c_spec_size hx21
    refine st_call (cx_call hc22 (ent_f hc22.fn rfl) hn0 (H.sel' [0, 1] rfl rfl : Hp S0 σ0 _ ([] ++ _))) wn ?_
    rintro _ σ23 ⟨_, ⟨rfl, rfl⟩, H, -⟩
    replace H : Hp _ _ _ [_, _] := H
    refine sa (I r20) rfl (w_end (q_then (c_seq (rg (sm (I Bo) rfl (w_end (q_then (c_blk (c_seq (rg (st (v := (B (Bo == 1))) (rv_eql (a := Bo) (b := 1) rfl rfl) ?_)))))))))))
    refine sa (B (Bo == 1)) rfl (w_end (q_then ?_))
    refine cd_cond (Bo == 1) rfl (fun hb24 => ?_) (fun hb24 => ?_)
    ·replace h := bif_t hb24 h
     refine rg (sm (I s2.1) rfl (sm (I r20) rfl (st (v := (I (w64 (s2.1 + r20)))) (rv_add (a := s2.1) (b := r20) rfl rfl) (sa (I (w64 (s2.1 + r20))) rfl (w_end (q_blk (q_blk ?_)))))))
     obtain rfl := sj h
     exact ⟨rfl, _, σ23, fr_join ⟨rfl, rfl, rfl, rfl, rfl, trivial⟩, rfl, H.sel' [0, 1] rfl rfl⟩
    ·replace h := bif_f hb24 h
     refine c_seq (rg (st (v := (B (Bo == 2))) (rv_eql (a := Bo) (b := 2) rfl rfl) (sa (B (Bo == 2)) rfl (w_end (q_then ?_)))))
     refine cd_cond (Bo == 2) rfl (fun hb25 => ?_) (fun hb25 => ?_)
     ·replace h := bif_t hb25 h
      refine rg (sm (I s2.1) rfl (sm (I r20) rfl (st (v := (I (max s2.1 r20))) (rv_max rfl rfl) (sa (I (max s2.1 r20)) rfl (w_end (q_blk (q_blk ?_)))))))
      obtain rfl := sj h
      exact ⟨rfl, _, σ23, fr_join ⟨rfl, rfl, rfl, rfl, rfl, trivial⟩, rfl, H.sel' [0, 1] rfl rfl⟩
     ·replace h := bif_f hb25 h
      refine c_seq (rg (st (v := (B (Bo == 3))) (rv_eql (a := Bo) (b := 3) rfl rfl) (sa (B (Bo == 3)) rfl (w_end (q_then ?_)))))
      refine cd_cond (Bo == 3) rfl (fun hb26 => ?_) (fun hb26 => ?_)
      ·replace h := bif_t hb26 h
       refine rg (sm (I s2.1) rfl (sm (I r20) rfl (sm (I r20) rfl (st (v := (I (w64 (r20 * r20)))) (rv_mul (a := r20) (b := r20) rfl rfl) (st (v := (I (w64 (s2.1 + (w64 (r20 * r20)))))) (rv_add (a := s2.1) (b := (w64 (r20 * r20))) rfl rfl) (sa (I (w64 (s2.1 + (w64 (r20 * r20))))) rfl (w_end (q_blk (q_blk ?_)))))))))
       obtain rfl := sj h
       exact ⟨rfl, _, σ23, fr_join ⟨rfl, rfl, rfl, rfl, rfl, trivial⟩, rfl, H.sel' [0, 1] rfl rfl⟩
      ·replace h := bif_f hb26 h
       refine rg (sm (I s2.1) rfl (sm (I r20) rfl (st (v := (B (decide (0 < r20)))) (rv_gtr (a := r20) (b := 0) rfl rfl) ?_)))
       revert h; refine br fun r27 hx28 h => ?_
       have hc29 := c_spec_toInt hx28
       refine st_call (cx_call hc29 (ent_f hc29.fn rfl) hn0 (H.sel' [0, 1] rfl rfl : Hp S0 σ0 _ ([] ++ _))) wn ?_
       rintro _ σ30 ⟨_, ⟨rfl, rfl⟩, H, -⟩
       replace H : Hp _ _ _ [_, _] := H
       refine st (v := (I (w64 (s2.1 + r27)))) (rv_add (a := s2.1) (b := r27) rfl rfl) (sa (I (w64 (s2.1 + r27))) rfl (w_end (q_blk (q_blk ?_))))
       obtain rfl := sj h
       exact ⟨rfl, _, σ30, fr_join ⟨rfl, rfl, rfl, rfl, rfl, trivial⟩, rfl, H.sel' [0, 1] rfl rfl⟩
   ·clear hj
    have h := h'
    clear h' H
    rintro e a w ⟨rfl, ρ, σ31, rfl, rfl, H⟩
    refine q_then (rg (sm (I s2.2) rfl (st (v := (I (w64 (s2.2 + 1)))) (rv_add (a := s2.2) (b := 1) rfl rfl) (sa (I (w64 (s2.2 + 1))) rfl (w_end (q_then ?_))))))
    obtain rfl := sj h
    exact ⟨_, rfl, _, σ31, fr_join ⟨rfl, rfl, rfl, rfl, rfl, trivial⟩, rfl, H.sel' [0, 1] rfl rfl⟩
  ·replace h := bif_f hb4 h
   refine c_exit (q_then_x (q_then_x (q_blk_hit ?_)))
   obtain rfl := sj h
   obtain rfl := hres _ rfl
   exact ⟨rfl, _, σ3, fr_join ⟨rfl, trivial⟩, rfl, H.sel' [] rfl rfl⟩
 ·clear hj
  have h := h'
  clear h' H
  rintro e a w ⟨rfl, ρ, σ32, rfl, rfl, H⟩
  refine q_then (c_seq (rg (sm (I o1) rfl (sa (I o1) rfl (w_end (q_then (c_ret ?_)))))))
  obtain rfl := sj h
  exact fin_ret (v := (I o1)) (results_ok Tryz.results40 (res_tmp (v := (I o1)) rfl res_nil) rfl) ⟨rfl, rfl⟩ (H.sel' [] rfl rfl)

theorem c_spec_nearer {Aa : Int × Int} {Bv : Int × Int}  {r : Bool} (h : M.spec_nearer Aa Bv = some r) :
    Cal2 Tryz.prog 80 [(.agg #[(I Aa.1), (I Aa.2)]), (.agg #[(I Bv.1), (I Bv.2)])] [] (fun n0 v L => v = (B r) ∧ L = []) := by
 refine cal2 (n := 24) Tryz.func80 rfl rfl rfl rfl ?_
 intro S0 σ0 n0 hn0 H
 unfold M.spec_nearer at h
 refine c_seq (rg (st_ex (ex_box (cs := [(I Aa.1), (I Aa.2)]) H hn0 rfl rfl) wn ?_))
 rintro _ σ2 ⟨b1, rfl, H, -⟩
 refine st_ex (ex_box (cs := [(I Bv.1), (I Bv.2)]) H hn0 rfl rfl) wn ?_
 rintro _ σ4 ⟨b3, rfl, H, -⟩
 refine sa (B false) rfl (w_end (q_then (c_seq (rg (st (v := (pt b1 1)) (rv_fieldAddr (off := 1) (ft := 3) Tryz.underlying81 rfl ti3 rfl rfl) ?_)))))
 have hc5 := H.cell (u := (I Aa.2)) (o' := 1) 1 1 rfl rfl rfl
 refine st (v := (I Aa.2)) (rv_load1 Tryz.underlying3 rfl rfl hc5) (st (v := (pt b3 1)) (rv_fieldAddr (off := 1) (ft := 3) Tryz.underlying81 rfl ti3 rfl rfl) ?_)
 have hc6 := H.cell (u := (I Bv.2)) (o' := 1) 0 1 rfl rfl rfl
 refine st (v := (I Bv.2)) (rv_load1 Tryz.underlying3 rfl rfl hc6) (st (v := (B (decide (Aa.2 < Bv.2)))) (rv_lss (a := Aa.2) (b := Bv.2) rfl rfl) (sm (B (decide (Aa.2 < Bv.2))) rfl ?_))
 rcases Bool.eq_false_or_eq_true (decide (Aa.2 < Bv.2)) with hb7 | hb7
 ·replace h := bif_t hb7 h
  refine st_skip (congrArg some hb7) (st_skip (congrArg some hb7) (st_skip (congrArg some hb7) (st_skip (congrArg some hb7) (st_skip (congrArg some hb7) (st_skip (congrArg some hb7) (st_skip_u rfl (st_skip_u rfl (st_skip_u rfl (st_skip_u rfl (st_skip_u rfl (st_skip (congrArg some hb7) ?_)))))))))))
  refine st (v := (B true)) (rv_pick_t (congrArg B hb7) rfl) (sa (B true) rfl (w_end (q_then (c_ret ?_))))
  obtain rfl := sj h
  exact fin_ret (v := (B true)) (results_ok Tryz.results80 (res_tmp (v := (B true)) rfl res_nil) rfl) ⟨rfl, rfl⟩ (H.sel' [] rfl rfl)
 ·replace h := bif_f hb7 h
  refine st_g (v := (pt b1 1)) (congrArg some hb7) (rv_fieldAddr (off := 1) (ft := 3) Tryz.underlying81 rfl ti3 rfl rfl) ?_
  have hc8 := H.cell (u := (I Aa.2)) (o' := 1) 1 1 rfl rfl rfl
  refine st_g (v := (I Aa.2)) (congrArg some hb7) (rv_load1 Tryz.underlying3 rfl rfl hc8) (st_g (v := (pt b3 1)) (congrArg some hb7) (rv_fieldAddr (off := 1) (ft := 3) Tryz.underlying81 rfl ti3 rfl rfl) ?_)
  have hc9 := H.cell (u := (I Bv.2)) (o' := 1) 0 1 rfl rfl rfl
  refine st_g (v := (I Bv.2)) (congrArg some hb7) (rv_load1 Tryz.underlying3 rfl rfl hc9) (st_g (v := (B (Aa.2 == Bv.2))) (congrArg some hb7) (rv_eql (a := Aa.2) (b := Bv.2) rfl rfl) (st_g (v := (B (Aa.2 == Bv.2))) (congrArg some hb7) (rv_move rfl) ?_))
  rcases Bool.eq_false_or_eq_true (Aa.2 == Bv.2) with hb10 | hb10
  ·replace h := bif_t hb10 h
   refine st_g (v := (pt b1 0)) (congrArg some hb10) (rv_fieldAddr (off := 0) (ft := 3) Tryz.underlying81 rfl ti3 rfl rfl) ?_
   have hc11 := H.cell (u := (I Aa.1)) (o' := 0) 1 0 rfl rfl rfl
   refine st_g (v := (I Aa.1)) (congrArg some hb10) (rv_load1 Tryz.underlying3 rfl rfl hc11) (st_g (v := (pt b3 0)) (congrArg some hb10) (rv_fieldAddr (off := 0) (ft := 3) Tryz.underlying81 rfl ti3 rfl rfl) ?_)
   have hc12 := H.cell (u := (I Bv.1)) (o' := 0) 0 0 rfl rfl rfl
   refine st_g (v := (I Bv.1)) (congrArg some hb10) (rv_load1 Tryz.underlying3 rfl rfl hc12) (st_g (v := (B (decide (Aa.1 < Bv.1)))) (congrArg some hb10) (rv_lss (a := Aa.1) (b := Bv.1) rfl rfl) (st_g (v := (B (decide (Aa.1 < Bv.1)))) (congrArg some hb7) (rv_pick_t (congrArg B hb10) rfl) (st (v := (B (decide (Aa.1 < Bv.1)))) (rv_pick_f (congrArg B hb7) rfl) (sa (B (decide (Aa.1 < Bv.1))) rfl (w_end (q_then (c_ret ?_)))))))
   obtain rfl := sj h
   exact fin_ret (v := (B (decide (Aa.1 < Bv.1)))) (results_ok Tryz.results80 (res_tmp (v := (B (decide (Aa.1 < Bv.1)))) rfl res_nil) rfl) ⟨rfl, rfl⟩ (H.sel' [] rfl rfl)
  ·replace h := bif_f hb10 h
   refine st_skip (congrArg some hb10) (st_skip (congrArg some hb10) (st_skip (congrArg some hb10) (st_skip (congrArg some hb10) (st_skip (congrArg some hb10) (st_g (v := (B false)) (congrArg some hb7) (rv_pick_f (congrArg B hb10) rfl) (st (v := (B false)) (rv_pick_f (congrArg B hb7) rfl) (sa (B false) rfl (w_end (q_then (c_ret ?_))))))))))
   obtain rfl := sj h
   exact fin_ret (v := (B false)) (results_ok Tryz.results80 (res_tmp (v := (B false)) rfl res_nil) rfl) ⟨rfl, rfl⟩ (H.sel' [] rfl rfl)

theorem c_spec_addHit {Ak : List (Int × Int)} {Bw : Int × Int} {By : Int} {Am : Option Addr} {Ao : Nat} {r : (List (Int × Int))} (h : M.spec_addHit Ak Bw By = some r) :
    Cal2 Tryz.prog 59 [(Sl Am Ak Ao), (.agg #[(I Bw.1), (I Bw.2)]), (I By)] [Ch.ro 0 (Sl Am Ak Ao) Ak] (fun n0 v L => ∃ (az1 : Option Addr), ∃ (cz2 : Nat), v = (Sl az1 r cz2) ∧ L = [Ch.own n0 n0 (Sl az1 r cz2) r]) := by
 refine cal2 (n := 58) Tryz.func59 rfl rfl rfl rfl ?_
 intro S0 σ0 n0 hn0 H
 unfold M.spec_addHit at h
 refine c_seq (rg (st_ex (ex_box (cs := [(I Bw.1), (I Bw.2)]) H hn0 rfl rfl) wn ?_))
 rintro _ σ2 ⟨b1, rfl, H, -⟩
 refine sa (.slice none 0 0) rfl (w_end (q_then (c_seq ?_)))
 revert h; refine br fun xs4 hx5 h => ?_
 have hc8 := H.cells 0 rfl
 have Hs := H
 refine rg2 (σ := σ2) (Nm := (Nat) × (Option Addr) × (Nat) × (Nat)) 5 [0, 2, 4] [[false, false, false], [true, false, false], [false, false, true], [true, true, false], [true, false, true], [true, true, true]] [[(0, 1), (2, 4)], [(0, 0), (1, 1), (2, 2), (4, 4)], [(1, 3), (4, 5)], [(0, 0), (1, 1), (3, 3)], [(0, 2), (1, 4), (3, 5)]] 5 [fun ((b3, a6, c7, b9) : (Nat) × (Option Addr) × (Nat) × (Nat)) => fun σm => Hp S0 σ0 σm [Ch.bx n0 b1 0 [(I Bw.1), (I Bw.2)] [] [], Ch.ro 0 (Sl Am Ak Ao) Ak] ∧ Md (cov []) σ2 σm, fun ((b3, a6, c7, b9) : (Nat) × (Option Addr) × (Nat) × (Nat)) => fun σm => Hp S0 σ0 σm [Ch.own n0 n0 (Sl (some ⟨b3, 0, none⟩) ([] : List (Int × Int)) 0) ([] : List (Int × Int)), Ch.bx n0 b1 0 [(I Bw.1), (I Bw.2)] [] [], Ch.ro 0 (Sl Am Ak Ao) Ak] ∧ Md (cov []) σ2 σm, fun ((b3, a6, c7, b9) : (Nat) × (Option Addr) × (Nat) × (Nat)) => fun σm => Hp S0 σ0 σm [Ch.own n0 n0 (Sl (some ⟨b9, 0, none⟩) ([(Bw.1, Bw.2)] : List (Int × Int)) 1) ([(Bw.1, Bw.2)] : List (Int × Int)), Ch.bx n0 b1 0 [(I Bw.1), (I Bw.2)] [] [], Ch.ro 0 (Sl Am Ak Ao) Ak] ∧ Md (cov []) σ2 σm, fun ((b3, a6, c7, b9) : (Nat) × (Option Addr) × (Nat) × (Nat)) => fun σm => Hp S0 σ0 σm [Ch.own n0 n0 (Sl a6 xs4 c7) xs4, Ch.bx n0 b1 0 [(I Bw.1), (I Bw.2)] [] [], Ch.ro 0 (Sl Am Ak Ao) Ak] ∧ Md (fun i => (cov []) i ∨ (fun b => blk (Sl (some ⟨b3, 0, none⟩) ([] : List (Int × Int)) 0) = some b) i) σ2 σm, fun ((b3, a6, c7, b9) : (Nat) × (Option Addr) × (Nat) × (Nat)) => fun σm => Hp S0 σ0 σm [Ch.own n0 n0 (Sl (some ⟨b9, 0, none⟩) ([(Bw.1, Bw.2)] : List (Int × Int)) 1) ([(Bw.1, Bw.2)] : List (Int × Int)), Ch.own n0 n0 (Sl (some ⟨b3, 0, none⟩) ([] : List (Int × Int)) 0) ([] : List (Int × Int)), Ch.bx n0 b1 0 [(I Bw.1), (I Bw.2)] [] [], Ch.ro 0 (Sl Am Ak Ao) Ak] ∧ Md (cov []) σ2 σm, fun ((b3, a6, c7, b9) : (Nat) × (Option Addr) × (Nat) × (Nat)) => fun σm => Hp S0 σ0 σm [Ch.own n0 n0 (Sl (some ⟨b9, 0, none⟩) ([(Bw.1, Bw.2)] : List (Int × Int)) 1) ([(Bw.1, Bw.2)] : List (Int × Int)), Ch.own n0 n0 (Sl a6 xs4 c7) xs4, Ch.bx n0 b1 0 [(I Bw.1), (I Bw.2)] [] [], Ch.ro 0 (Sl Am Ak Ao) Ak] ∧ Md (fun i => (cov []) i ∨ (fun b => blk (Sl (some ⟨b3, 0, none⟩) ([] : List (Int × Int)) 0) = some b) i) σ2 σm] [fun ((b3, a6, c7, b9) : (Nat) × (Option Addr) × (Nat) × (Nat)) => (Sl (some ⟨b3, 0, none⟩) ([] : List (Int × Int)) 0), fun ((b3, a6, c7, b9) : (Nat) × (Option Addr) × (Nat) × (Nat)) => (Sl Am Ak Ao), fun ((b3, a6, c7, b9) : (Nat) × (Option Addr) × (Nat) × (Nat)) => (Sl a6 xs4 c7), fun ((b3, a6, c7, b9) : (Nat) × (Option Addr) × (Nat) × (Nat)) => (.agg #[(I Bw.1), (I Bw.2)]), fun ((b3, a6, c7, b9) : (Nat) × (Option Addr) × (Nat) × (Nat)) => (Sl (some ⟨b9, 0, none⟩) ([(Bw.1, Bw.2)] : List (Int × Int)) 1)] (0, none, 0, 0) (by kernel_rfl) (by kernel_rfl) ?_ ?_ ?_
 ·intro σm m0
  exact ⟨H.grow (m0.mono fun _ h => h.elim), m0⟩
 ·refine all_cons (by
    refine ⟨?_, ?_⟩
    ·rintro ⟨b3, a6, c7, b9⟩ ρ σm hJ hoff hdep
     obtain ⟨H, m⟩ := id hJ
     refine dp_ex wn (ex_buildSlice (el := n0) (xs := ([] : List (Int × Int))) (ps := []) (cs := []) H hn0 Tryz.underlying74 ti81 rfl rfl (by kernel_rfl) (.nil) rfl) ?_
     rintro _ σq ⟨b3x, rfl, H2, m2⟩
     exact ⟨_, (b3x, a6, c7, b9), rfl, rfl, ⟨H2.sel' [0, 1, 2] rfl rfl, m.comp0 m2⟩, stab [1, 3, 4] (by kernel_rfl) ⟨rfl, rfl, rfl, trivial⟩⟩
    refine ⟨?_, ?_⟩
    ·rintro ⟨b3, a6, c7, b9⟩ ρ σm hJ hoff hdep
     obtain ⟨H, m⟩ := id hJ
     refine dp_ex wn (ex_buildSlice (el := n0) (xs := ([] : List (Int × Int))) (ps := []) (cs := []) H hn0 Tryz.underlying74 ti81 rfl rfl (by kernel_rfl) (.nil) rfl) ?_
     rintro _ σq ⟨b3x, rfl, H2, m2⟩
     exact ⟨_, (b3x, a6, c7, b9), rfl, rfl, ⟨H2.sel' [1, 0, 2, 3] rfl rfl, m.comp0 m2⟩, stab [1, 3, 4] (by kernel_rfl) ⟨rfl, rfl, rfl, trivial⟩⟩
    trivial) ?_
  refine ac rfl (by
    intro k; rintro ⟨b3, a6, c7, b9⟩ ρ σm hJ hoff hdep
    have e0 := look_off (N := 58) (hoff 0 rfl) rfl
    exact dp_v (v := (Sl Am Ak Ao)) wn (rv_move e0) rfl hJ) ?_
  refine all_cons (by
    refine ⟨?_, ?_⟩
    ·rintro ⟨b3, a6, c7, b9⟩ ρ σm hJ hoff hdep
     have e10 := hdep 0 rfl rfl 10 rfl
     have e11 := hdep 1 rfl rfl 11 rfl
     obtain ⟨H, m⟩ := id hJ
     refine dp_ex wn (ex_append H (i := 0) rfl Tryz.underlying74 Tryz.underlying74 ti81 rfl rfl (by decide) ((H.ro 2 rfl).rd.sc) hx5 hn0 e10 e11) ?_
     rintro _ σq ⟨a6x, c7x, rfl, H2, m2⟩
     exact ⟨_, (b3, a6x, c7x, b9), rfl, rfl, ⟨H2.sel' [0, 1, 2] rfl rfl, m.comp m2⟩, stab [0, 1, 3, 4] (by kernel_rfl) ⟨rfl, rfl, rfl, rfl, trivial⟩⟩
    refine ⟨?_, ?_⟩
    ·rintro ⟨b3, a6, c7, b9⟩ ρ σm hJ hoff hdep
     have e10 := hdep 0 rfl rfl 10 rfl
     have e11 := hdep 1 rfl rfl 11 rfl
     obtain ⟨H, m⟩ := id hJ
     refine dp_ex wn (ex_append H (i := 1) rfl Tryz.underlying74 Tryz.underlying74 ti81 rfl rfl (by decide) ((H.ro 3 rfl).rd.sc) hx5 hn0 e10 e11) ?_
     rintro _ σq ⟨a6x, c7x, rfl, H2, m2⟩
     exact ⟨_, (b3, a6x, c7x, b9), rfl, rfl, ⟨H2.sel' [1, 0, 2, 3] rfl rfl, m.comp m2⟩, stab [0, 1, 3, 4] (by kernel_rfl) ⟨rfl, rfl, rfl, rfl, trivial⟩⟩
    trivial) ?_
  refine all_cons (by
    refine ⟨?_, ?_⟩
    ·rintro ⟨b3, a6, c7, b9⟩ ρ σm hJ hoff hdep
     have e4 := look_off (N := 58) (hoff 4 rfl) rfl
     obtain ⟨H, m⟩ := id hJ
     have hc8 := H.cells 0 rfl
     exact dp_v (v := (.agg #[(I Bw.1), (I Bw.2)])) wn (rv_load (cs := [(I Bw.1), (I Bw.2)]) Tryz.underlying81 rfl ti81 e4 rfl hc8) rfl hJ
    refine ⟨?_, ?_⟩
    ·rintro ⟨b3, a6, c7, b9⟩ ρ σm hJ hoff hdep
     have e4 := look_off (N := 58) (hoff 4 rfl) rfl
     obtain ⟨H, m⟩ := id hJ
     have hc8 := H.cells 1 rfl
     exact dp_v (v := (.agg #[(I Bw.1), (I Bw.2)])) wn (rv_load (cs := [(I Bw.1), (I Bw.2)]) Tryz.underlying81 rfl ti81 e4 rfl hc8) rfl hJ
    refine ⟨?_, ?_⟩
    ·rintro ⟨b3, a6, c7, b9⟩ ρ σm hJ hoff hdep
     have e4 := look_off (N := 58) (hoff 4 rfl) rfl
     obtain ⟨H, m⟩ := id hJ
     have hc8 := H.cells 1 rfl
     exact dp_v (v := (.agg #[(I Bw.1), (I Bw.2)])) wn (rv_load (cs := [(I Bw.1), (I Bw.2)]) Tryz.underlying81 rfl ti81 e4 rfl hc8) rfl hJ
    trivial) ?_
  refine all_cons (by
    refine ⟨?_, ?_⟩
    ·rintro ⟨b3, a6, c7, b9⟩ ρ σm hJ hoff hdep
     have e13 : look 58 ρ 13 = (.agg #[(I Bw.1), (I Bw.2)]) := hdep 3 rfl rfl 13 rfl
     obtain ⟨H, m⟩ := id hJ
     refine dp_ex wn (ex_buildSlice (el := n0) (xs := ([(Bw.1, Bw.2)] : List (Int × Int))) (ps := [(0, (.agg #[(I Bw.1), (I Bw.2)]))]) (cs := [(I Bw.1), (I Bw.2)]) H hn0 Tryz.underlying74 ti81 rfl (by show [(0, look 58 ρ 13)] = _; rw [e13]) (by kernel_rfl) (.cons (c := [(I Bw.1), (I Bw.2)]) ⟨[(I Bw.1)], [(I Bw.2)], rfl, rfl, rfl⟩ (.nil)) rfl) ?_
     rintro _ σq ⟨b9x, rfl, H2, m2⟩
     exact ⟨_, (b3, a6, c7, b9x), rfl, rfl, ⟨H2.sel' [0, 1, 2] rfl rfl, m.comp0 m2⟩, stab [0, 1, 2, 3] (by kernel_rfl) ⟨rfl, rfl, rfl, rfl, trivial⟩⟩
    refine ⟨?_, ?_⟩
    ·rintro ⟨b3, a6, c7, b9⟩ ρ σm hJ hoff hdep
     have e13 : look 58 ρ 13 = (.agg #[(I Bw.1), (I Bw.2)]) := hdep 3 rfl rfl 13 rfl
     obtain ⟨H, m⟩ := id hJ
     refine dp_ex wn (ex_buildSlice (el := n0) (xs := ([(Bw.1, Bw.2)] : List (Int × Int))) (ps := [(0, (.agg #[(I Bw.1), (I Bw.2)]))]) (cs := [(I Bw.1), (I Bw.2)]) H hn0 Tryz.underlying74 ti81 rfl (by show [(0, look 58 ρ 13)] = _; rw [e13]) (by kernel_rfl) (.cons (c := [(I Bw.1), (I Bw.2)]) ⟨[(I Bw.1)], [(I Bw.2)], rfl, rfl, rfl⟩ (.nil)) rfl) ?_
     rintro _ σq ⟨b9x, rfl, H2, m2⟩
     exact ⟨_, (b3, a6, c7, b9x), rfl, rfl, ⟨H2.sel' [0, 1, 2, 3] rfl rfl, m.comp0 m2⟩, stab [0, 1, 2, 3] (by kernel_rfl) ⟨rfl, rfl, rfl, rfl, trivial⟩⟩
    refine ⟨?_, ?_⟩
    ·rintro ⟨b3, a6, c7, b9⟩ ρ σm hJ hoff hdep
     have e13 : look 58 ρ 13 = (.agg #[(I Bw.1), (I Bw.2)]) := hdep 3 rfl rfl 13 rfl
     obtain ⟨H, m⟩ := id hJ
     refine dp_ex wn (ex_buildSlice (el := n0) (xs := ([(Bw.1, Bw.2)] : List (Int × Int))) (ps := [(0, (.agg #[(I Bw.1), (I Bw.2)]))]) (cs := [(I Bw.1), (I Bw.2)]) H hn0 Tryz.underlying74 ti81 rfl (by show [(0, look 58 ρ 13)] = _; rw [e13]) (by kernel_rfl) (.cons (c := [(I Bw.1), (I Bw.2)]) ⟨[(I Bw.1)], [(I Bw.2)], rfl, rfl, rfl⟩ (.nil)) rfl) ?_
     rintro _ σq ⟨b9x, rfl, H2, m2⟩
     exact ⟨_, (b3, a6, c7, b9x), rfl, rfl, ⟨H2.sel' [0, 1, 2, 3] rfl rfl, m.comp0 m2⟩, stab [0, 1, 2, 3] (by kernel_rfl) ⟨rfl, rfl, rfl, rfl, trivial⟩⟩
    trivial) ?_
  exact all_nil
 ·rintro ⟨b3, a6, c7, b9⟩ ρ σ10 hJ hoff hrel
  have e2 := look_off (N := 58) (hoff 2 rfl) rfl
  have e12 := hrel 2 rfl 12 rfl
  have e14 := hrel 4 rfl 14 rfl
  obtain ⟨H, -⟩ := (show Hp S0 σ0 σ10 [Ch.own n0 n0 (Sl (some ⟨b9, 0, none⟩) ([(Bw.1, Bw.2)] : List (Int × Int)) 1) ([(Bw.1, Bw.2)] : List (Int × Int)), Ch.own n0 n0 (Sl a6 xs4 c7) xs4, Ch.bx n0 b1 0 [(I Bw.1), (I Bw.2)] [] [], Ch.ro 0 (Sl Am Ak Ao) Ak] ∧ Md (fun i => (cov []) i ∨ (fun b => blk (Sl (some ⟨b3, 0, none⟩) ([] : List (Int × Int)) 0) = some b) i) σ2 σ10 from hJ)
  clear hJ Hs
  rw [fr_lookL (L := [(2, (I By)), (12, (Sl a6 xs4 c7)), (14, (Sl (some ⟨b9, 0, none⟩) ([(Bw.1, Bw.2)] : List (Int × Int)) 1))]) ⟨e2, e12, e14, trivial⟩]
  clear hoff hrel e2 e12 e14
  revert h; refine br fun xs11 hx12 h => ?_
  refine st_ex (ex_append H (i := 1) rfl Tryz.underlying74 Tryz.underlying74 ti81 rfl rfl (by decide) (H.own 0 rfl).rd hx12 hn0 rfl rfl) wn ?_
  rintro _ σ15 ⟨a13, c14, rfl, H, -⟩
  refine sa (Sl a13 xs11 c14) rfl (w_end (q_then (c_seq (c_seq (rg (sm (Sl a13 xs11 c14) rfl (st (v := (I (xs11.length : Int))) (rv_len Tryz.underlying74 rfl) (st (v := (I (w64 ((xs11.length : Int) - 1)))) (rv_sub (a := (xs11.length : Int)) (b := 1) rfl rfl) (sa (I (w64 ((xs11.length : Int) - 1))) rfl (w_end (q_then ?_)))))))))))
  obtain ⟨o16, hj, h'⟩ := bind_some h
  clear h
  refine c_cut (fun e a w => e = .normal ∧ ∃ (ρ : Nat → Value) (σ : St), a = fr 58 (updL ρ [(2, (I By)), (7, (Sl a13 o16 c14))]) ∧ w = σ.w ∧ Hp S0 σ0 σ [Ch.own n0 n0 (Sl a13 o16 c14) o16] ∧ o16.length = xs11.length) ?_ ?_
  ·clear h'
   rename _ = some o16 => h
   refine c_blk (wp_loopM _ h (fun s17 a w => ∃ (ρ : Nat → Value) (σ : St), a = fr 58 (updL ρ [(2, (I By)), (7, (Sl a13 s17.1 c14)), (8, (I s17.2))]) ∧ w = σ.w ∧ Hp S0 σ0 σ [Ch.own n0 n0 (Sl a13 s17.1 c14) s17.1] ∧ s17.1.length = xs11.length) ⟨_, σ15, fr_join ⟨rfl, rfl, rfl, trivial⟩, rfl, H.sel' [0] rfl rfl, rfl⟩ ?_)
   clear h H
   rintro s17 a w o ⟨ρ, σ18, rfl, rfl, H, hn19⟩ h hres
   refine c_seq (c_seq ?_)
   obtain ⟨o20, hj, h'⟩ := bind_some h
   clear h
   refine c_cut (fun e a w => e = .normal ∧ ∃ (ρ : Nat → Value) (σ : St), a = fr 58 (updL ρ [(2, (I By)), (7, (Sl a13 s17.1 c14)), (8, (I s17.2)), (32, (B o20))]) ∧ w = σ.w ∧ Hp S0 σ0 σ [Ch.own n0 n0 (Sl a13 s17.1 c14) s17.1]) ?_ ?_
   ·clear h'
    rename _ = some o20 => h
    refine rgP (σ := σ18) 12 (by kernel_rfl) (by kernel_rfl) (by kernel_rfl) ?_
    refine sq (v := (I s17.2)) (rv_move rfl) (sq (v := (B (decide (0 < s17.2)))) (rv_gtr (a := s17.2) (b := 0) rfl rfl) (sq (v := (B (decide (0 < s17.2)))) (rv_move rfl) ?_))
    rcases Bool.eq_false_or_eq_true (decide (0 < s17.2)) with hb21 | hb21
    ·replace h := bif_t hb21 h
     refine sq_g (v := (Sl a13 s17.1 c14)) (congrArg some hb21) (rv_move rfl) (sq_g (v := (I s17.2)) (congrArg some hb21) (rv_move rfl) ?_)
     revert h; refine br fun x22 hx23 h => ?_
     obtain ⟨b25, o26, hi24, -⟩ := (H.own 0 rfl).ix hx23
     refine sq_g (v := (pt b25 o26)) (congrArg some hb21) (rv_ix Tryz.underlying74 ti81 rfl rfl hi24) ?_
     obtain ⟨_, ⟨_, _, rfl, rfl, rfl⟩, hl27, hc28⟩ := ((H.own 0 rfl).at hx23 hi24).cells
     refine sq_g (v := (.agg #[(I x22.1), (I x22.2)])) (congrArg some hb21) (rv_load Tryz.underlying81 rfl ti81 rfl hl27 hc28) (sq_g (v := (Sl a13 s17.1 c14)) (congrArg some hb21) (rv_move rfl) (sq_g (v := (I s17.2)) (congrArg some hb21) (rv_move rfl) (sq_g (v := (I (w64 (s17.2 - 1)))) (congrArg some hb21) (rv_sub (a := s17.2) (b := 1) rfl rfl) ?_)))
     revert h; refine br fun x29 hx30 h => ?_
     obtain ⟨b32, o33, hi31, -⟩ := (H.own 0 rfl).ix hx30
     refine sq_g (v := (pt b32 o33)) (congrArg some hb21) (rv_ix Tryz.underlying74 ti81 rfl rfl hi31) ?_
     obtain ⟨_, ⟨_, _, rfl, rfl, rfl⟩, hl34, hc35⟩ := ((H.own 0 rfl).at hx30 hi31).cells
     refine sq_g (v := (.agg #[(I x29.1), (I x29.2)])) (congrArg some hb21) (rv_load Tryz.underlying81 rfl ti81 rfl hl34 hc35) (sq_end ?_)
     intro σ36 hm37
     replace H := H.grow (hm37.mono fun _ h => h); clear hm37
     revert h; refine br fun r38 hx39 h => ?_
     have hc40 := c_spec_nearer hx39
     refine st_call (cx_call hc40 (ent_f hc40.fn rfl) hn0 (H.sel' [0] rfl rfl : Hp S0 σ0 _ ([] ++ _))) (wanted_yes rfl (by exact (congrArg some hb21))) ?_
     rintro _ σ41 ⟨_, ⟨rfl, rfl⟩, H, -⟩
     replace H : Hp _ _ _ [_] := H
     refine st (v := (B r38)) (rv_pick_t (congrArg B hb21) rfl) (w_end ?_)
     obtain rfl := sj h
     exact ⟨rfl, _, σ41, fr_join ⟨rfl, rfl, rfl, rfl, trivial⟩, rfl, H.sel' [0] rfl rfl⟩
    ·replace h := bif_f hb21 h
     refine sq_skip (congrArg some hb21) (sq_skip (congrArg some hb21) (sq_skip (congrArg some hb21) (sq_skip (congrArg some hb21) (sq_skip (congrArg some hb21) (sq_skip (congrArg some hb21) (sq_skip (congrArg some hb21) (sq_skip (congrArg some hb21) (sq_skip (congrArg some hb21) (sq_end ?_)))))))))
     intro σ42 hm43
     replace H := H.grow (hm43.mono fun _ h => h); clear hm43
     refine st_skip (congrArg some hb21) (st (v := (B false)) (rv_pick_f (congrArg B hb21) rfl) (w_end ?_))
     obtain rfl := sj h
     exact ⟨rfl, _, σ42, fr_join ⟨rfl, rfl, rfl, rfl, trivial⟩, rfl, H.sel' [0] rfl rfl⟩
   ·clear hj
    have h := h'
    clear h' H
    rintro e a w ⟨rfl, ρ, σ44, rfl, rfl, H⟩
    refine q_then ?_
    refine cd_cond o20 rfl (fun hb45 => ?_) (fun hb45 => ?_)
    ·replace h := bif_t hb45 h
     refine c_skip (q_then (c_seq (c_blk (c_seq (rg (sm (Sl a13 s17.1 c14) rfl (sm (I s17.2) rfl ?_)))))))
     revert h; refine br fun x46 hx47 h => ?_
     obtain ⟨b49, o50, hi48, -⟩ := (H.own 0 rfl).ix hx47
     refine st (v := (pt b49 o50)) (rv_ix Tryz.underlying74 ti81 rfl rfl hi48) ?_
     obtain ⟨_, ⟨_, _, rfl, rfl, rfl⟩, hl51, hc52⟩ := ((H.own 0 rfl).at hx47 hi48).cells
     refine st (v := (.agg #[(I x46.1), (I x46.2)])) (rv_load Tryz.underlying81 rfl ti81 rfl hl51 hc52) (st_ex (ex_alloc (cs := [(I 0), (I 0)]) H hn0 ti81 rfl) wn ?_)
     rintro _ σ54 ⟨b53, rfl, H, -⟩
     refine st_exS (ex_store_box (k := 0) (cs := [(I 0), (I 0)]) (vs := [(I x46.1), (I x46.2)]) (cs' := [(I x46.1), (I x46.2)]) H (i := 0) rfl ti81 rfl rfl rfl rfl rfl (Nat.le_of_ble_eq_true rfl) (by simp [plain]) rfl) wn ?_
     rintro σ55 ⟨H, -⟩
     refine w_end (q_then (c_seq (rg (sm (Sl a13 s17.1 c14) rfl (sm (I s17.2) rfl (sm (Sl a13 s17.1 c14) rfl (sm (I s17.2) rfl (st (v := (I (w64 (s17.2 - 1)))) (rv_sub (a := s17.2) (b := 1) rfl rfl) ?_))))))))
     revert h; refine br fun x56 hx57 h => ?_
     obtain ⟨b59, o60, hi58, -⟩ := (H.own 1 rfl).ix hx57
     refine st (v := (pt b59 o60)) (rv_ix Tryz.underlying74 ti81 rfl rfl hi58) ?_
     obtain ⟨_, ⟨_, _, rfl, rfl, rfl⟩, hl61, hc62⟩ := ((H.own 1 rfl).at hx57 hi58).cells
     refine st (v := (.agg #[(I x56.1), (I x56.2)])) (rv_load Tryz.underlying81 rfl ti81 rfl hl61 hc62) ?_
     revert h; refine br fun x63 hx64 h => ?_
     obtain ⟨b66, o67, hi65, -⟩ := (H.own 1 rfl).ix hx64
     refine st (v := (pt b66 o67)) (rv_ix Tryz.underlying74 ti81 rfl rfl hi65) ?_
     refine st_exS (ex_store_own (e' := (x56.1, x56.2)) (vs := [(I x56.1), (I x56.2)]) (k := 0) H (i := 1) rfl ti81 hx64 hi65 rfl rfl rfl rfl rfl (Nat.le_of_ble_eq_true rfl) (by simp [plain]) (by rintro _ ⟨_, _, rfl, rfl, rfl⟩; exact ⟨[(I x56.1)], [(I x56.2)], rfl, rfl, rfl⟩)) wn ?_
     rintro σ68 ⟨H, -⟩
     have hsl : (Sl a13 s17.1 c14) = (Sl a13 (s17.1.set s17.2.toNat (x56.1, x56.2)) c14) := sl_len List.length_set.symm
     rw [hsl]; rw [hsl] at H; clear hsl
     refine w_end (q_then (rg (sm (Sl a13 (s17.1.set s17.2.toNat (x56.1, x56.2)) c14) rfl (sm (I s17.2) rfl (st (v := (I (w64 (s17.2 - 1)))) (rv_sub (a := s17.2) (b := 1) rfl rfl) ?_)))))
     have hc69 := H.cells 1 rfl
     refine st (v := (.agg #[(I x46.1), (I x46.2)])) (rv_load (cs := [(I x46.1), (I x46.2)]) Tryz.underlying81 rfl ti81 rfl rfl hc69) ?_
     revert h; refine br fun x70 hx71 h => ?_
     obtain ⟨b73, o74, hi72, -⟩ := (H.own 0 rfl).ix hx71
     refine st (v := (pt b73 o74)) (rv_ix Tryz.underlying74 ti81 rfl rfl hi72) ?_
     refine st_exS (ex_store_own (e' := (x46.1, x46.2)) (vs := [(I x46.1), (I x46.2)]) (k := 0) H (i := 0) rfl ti81 hx71 hi72 rfl rfl rfl rfl rfl (Nat.le_of_ble_eq_true rfl) (by simp [plain]) (by rintro _ ⟨_, _, rfl, rfl, rfl⟩; exact ⟨[(I x46.1)], [(I x46.2)], rfl, rfl, rfl⟩)) wn ?_
     rintro σ75 ⟨H, -⟩
     have hsl : (Sl a13 (s17.1.set s17.2.toNat (x56.1, x56.2)) c14) = (Sl a13 ((s17.1.set s17.2.toNat (x56.1, x56.2)).set (w64 (s17.2 - 1)).toNat (x46.1, x46.2)) c14) := sl_len List.length_set.symm
     rw [hsl]; rw [hsl] at H; clear hsl
     refine w_end (q_blk (q_then (rg (sm (I s17.2) rfl (st (v := (I (w64 (s17.2 - 1)))) (rv_sub (a := s17.2) (b := 1) rfl rfl) (sa (I (w64 (s17.2 - 1))) rfl (w_end (q_then ?_))))))))
     obtain rfl := sj h
     exact ⟨_, rfl, _, σ75, fr_join ⟨rfl, rfl, rfl, trivial⟩, rfl, H.sel' [0] rfl rfl, (List.length_set.trans (List.length_set.trans hn19))⟩
    ·replace h := bif_f hb45 h
     refine c_exit (q_then_x (q_then_x (q_blk_hit ?_)))
     obtain rfl := sj h
     obtain rfl := hres _ rfl
     exact ⟨rfl, _, σ44, fr_join ⟨rfl, rfl, trivial⟩, rfl, H.sel' [0] rfl rfl, hn19⟩
  ·clear hj
   have h := h'
   clear h' H
   rintro e a w ⟨rfl, ρ, σ76, rfl, rfl, H, hn77⟩
   refine q_then (c_seq (rg (sm (Sl a13 o16 c14) rfl (sm (I By) rfl (sm (Sl a13 o16 c14) rfl (st (v := (I (o16.length : Int))) (rv_len Tryz.underlying74 rfl) (st (v := (I (min By (o16.length : Int)))) (rv_min rfl rfl) ?_)))))))
   revert h; refine br fun xs78 hx79 h => ?_
   obtain ⟨a80, c81, hs82, hR83, hb84⟩ := (H.own 0 rfl).slice hx79
   replace H := (H.front (i := 0) rfl).turn (d := Ch.own n0 n0 (Sl a80 xs78 c81) xs78) (fun _ => hR83) hb84; clear hR83 hb84
   refine st (v := (Sl a80 xs78 c81)) (rv_slice_h Tryz.underlying74 ti81 hs82 rfl rfl) (sa (Sl a80 xs78 c81) rfl (w_end (q_then (c_ret ?_))))
   obtain rfl := sj h
   exact fin_ret (v := (Sl a80 xs78 c81)) (results_ok Tryz.results59 (res_tmp (v := (Sl a80 xs78 c81)) rfl res_nil) rfl) ⟨a80, c81, rfl, rfl⟩ (H.sel' [0] rfl rfl)

theorem c_spec_nearest {Ak : List (Int × (List Int) × Int)} {Bz : Int} {Bc : List Int} {Ca : Int} {Am : Option Addr} {Ao : Nat} {Bl : Option Addr} {Bm : Nat} {r : (List (Int × Int))} (h : M.spec_nearest Ak Bz Bc Ca = some r) :
    Cal2 Tryz.prog 38 [(Sl Am Ak Ao), (I Bz), (Sl Bl Bc Bm), (I Ca)] [Ch.ro 0 (Sl Am Ak Ao) Ak, Ch.ro 0 (Sl Bl Bc Bm) Bc] (fun n0 v L => ∃ (az1 : Option Addr), ∃ (cz2 : Nat), v = (Sl az1 r cz2) ∧ L = [Ch.own n0 n0 (Sl az1 r cz2) r]) := by
 refine cal2 (n := 36) Tryz.func38 rfl rfl rfl rfl ?_
 intro S0 σ0 n0 hn0 H
 unfold M.spec_nearest at h
 refine c_seq (rg (sa (.slice none 0 0) rfl (w_end (q_then (c_seq (rg ?_))))))
 refine st_ex (ex_buildSlice (el := n0) (xs := ([] : List (Int × Int))) (ps := []) (cs := []) H hn0 Tryz.underlying74 ti81 rfl rfl (by kernel_rfl) (.nil) rfl) wn ?_
 rintro _ σ2 ⟨b1, rfl, H, -⟩
 refine sa (Sl (some ⟨b1, 0, none⟩) ([] : List (Int × Int)) 0) rfl (w_end (q_then (c_seq (c_seq (rg (sa (I 0) rfl (w_end (q_then ?_))))))))
 obtain ⟨o3, hj, h'⟩ := bind_some h
 clear h
 refine c_cut (fun e a w => e = .normal ∧ ∃ (ρ : Nat → Value) (σ : St) (aj1 : Option Addr) (cj2 : Nat), a = fr 36 (updL ρ [(9, (Sl aj1 o3 cj2))]) ∧ w = σ.w ∧ Hp S0 σ0 σ [Ch.own n0 n0 (Sl aj1 o3 cj2) o3]) ?_ ?_
 ·clear h'
  rename _ = some o3 => h
  refine c_blk (wp_loopM _ h (fun s4 a w => ∃ (ρ : Nat → Value) (σ : St) (aj1 : Option Addr) (cj2 : Nat), a = fr 36 (updL ρ [(0, (Sl Am Ak Ao)), (1, (I Bz)), (2, (Sl Bl Bc Bm)), (3, (I Ca)), (9, (Sl aj1 s4.1 cj2)), (10, (I s4.2))]) ∧ w = σ.w ∧ Hp S0 σ0 σ [Ch.ro 0 (Sl Am Ak Ao) Ak, Ch.ro 0 (Sl Bl Bc Bm) Bc, Ch.own n0 n0 (Sl aj1 s4.1 cj2) s4.1]) ⟨_, σ2, (some ⟨b1, 0, none⟩), 0, fr_join ⟨rfl, rfl, rfl, rfl, rfl, rfl, trivial⟩, rfl, H.sel' [1, 2, 0] rfl rfl⟩ ?_)
  clear h H
  rintro s4 a w o ⟨ρ, σ5, a6, c7, rfl, rfl, H⟩ h hres
  refine c_seq (c_seq (rg (sm (I s4.2) rfl (sm (Sl Am Ak Ao) rfl (st (v := (I (Ak.length : Int))) (rv_len Tryz.underlying29 rfl) (st (v := (B (decide (s4.2 < (Ak.length : Int))))) (rv_lss (a := s4.2) (b := (Ak.length : Int)) rfl rfl) (w_end (q_then ?_))))))))
  refine cd_cond (decide (s4.2 < (Ak.length : Int))) rfl (fun hb8 => ?_) (fun hb8 => ?_)
  ·replace h := bif_t hb8 h
   refine c_skip (q_then (c_seq (c_blk ?_)))
   revert h; refine br fun x9 hx10 h => ?_
   obtain ⟨b12, o13, hi11, -⟩ := (H.ro 0 rfl).ix hx10
   have hc14 := ((H.ro 0 rfl).at hx10 hi11).fst.int
   revert h; refine br fun x15 hx16 h => ?_
   obtain ⟨b18, o19, hi17, -⟩ := (H.ro 0 rfl).ix hx16
   obtain ⟨v23, hc24, hR22⟩ := ((H.ro 0 rfl).at hx16 hi17).snd.fst.slice
   obtain ⟨a20, c21, rfl⟩ := hR22.isSl
   replace H := H.add (d := Ch.ro 0 (Sl a20 x15.2.1 c21) x15.2.1) hR22 (fun _ h => h)
   clear hR22
   revert h; refine br fun r25 hx26 h => ?_
   have hc27 := c_spec_dist (Br := a20) (Bs := c21) (Bt := Bl) (Bu := Bm) hx26
   have Hs := H
   refine rg2 (σ := σ5) (Nm := Unit) 16 [13] [[false], [true]] [[(0, 0), (1, 1)], [(0, 0), (1, 1)], [(0, 0), (1, 1)], [(0, 0), (1, 1)], [(0, 0), (1, 1)], [(0, 0), (1, 1)], [(0, 0)], [(0, 0)], [(0, 0)], [(0, 0)], [(0, 0)], [(0, 0)], [(0, 0)], [(0, 1)], [(1, 1)], [(0, 0), (1, 1)]] 1 [fun _ => fun σm => Hp S0 σ0 σm [Ch.ro 0 (Sl a20 x15.2.1 c21) x15.2.1, Ch.ro 0 (Sl Am Ak Ao) Ak, Ch.ro 0 (Sl Bl Bc Bm) Bc, Ch.own n0 n0 (Sl a6 s4.1 c7) s4.1] ∧ Md (cov []) σ5 σm, fun _ => fun σm => Hp S0 σ0 σm [Ch.ro 0 (Sl a20 x15.2.1 c21) x15.2.1, Ch.ro 0 (Sl Am Ak Ao) Ak, Ch.ro 0 (Sl Bl Bc Bm) Bc, Ch.own n0 n0 (Sl a6 s4.1 c7) s4.1] ∧ Md (cov []) σ5 σm] [fun _ => (Sl a6 s4.1 c7), fun _ => (Sl Am Ak Ao), fun _ => (I s4.2), fun _ => (pt b12 o13), fun _ => (pt b12 (o13 + 0)), fun _ => (I x9.1), fun _ => (I Bz), fun _ => (Sl Am Ak Ao), fun _ => (I s4.2), fun _ => (pt b18 o19), fun _ => (pt b18 (o19 + 1)), fun _ => (Sl a20 x15.2.1 c21), fun _ => (Sl Bl Bc Bm), fun _ => (I r25), fun _ => (.agg #[(I x9.1), (I r25)]), fun _ => (I Ca)] () (by kernel_rfl) (by kernel_rfl) ?_ ?_ ?_
   ·intro σm m0
    exact ⟨H.grow (m0.mono fun _ h => h.elim), m0⟩
   ·refine ac rfl (by
      intro k _nm ρ σm hJ hoff hdep
      have e9 := look_off (N := 36) (hoff 9 rfl) rfl
      exact dp_v (v := (Sl a6 s4.1 c7)) wn (rv_move e9) rfl hJ) ?_
    refine ac rfl (by
      intro k _nm ρ σm hJ hoff hdep
      have e0 := look_off (N := 36) (hoff 0 rfl) rfl
      exact dp_v (v := (Sl Am Ak Ao)) wn (rv_move e0) rfl hJ) ?_
    refine ac rfl (by
      intro k _nm ρ σm hJ hoff hdep
      have e10 := look_off (N := 36) (hoff 10 rfl) rfl
      exact dp_v (v := (I s4.2)) wn (rv_move e10) rfl hJ) ?_
    refine ac rfl (by
      intro k _nm ρ σm hJ hoff hdep
      have e19 := hdep 1 rfl rfl 19 rfl
      have e20 := hdep 2 rfl rfl 20 rfl
      exact dp_v (v := (pt b12 o13)) wn (rv_ix Tryz.underlying29 ti67 e19 e20 hi11) rfl hJ) ?_
    refine ac rfl (by
      intro k _nm ρ σm hJ hoff hdep
      have e21 := hdep 3 rfl rfl 21 rfl
      exact dp_v (v := (pt b12 (o13 + 0))) wn (rv_fieldAddr (off := 0) (ft := 3) Tryz.underlying67 rfl ti3 rfl e21) rfl hJ) ?_
    refine all_cons (by
      refine ⟨?_, ?_⟩
      ·intro _nm ρ σm hJ hoff hdep
       have e22 := hdep 4 rfl rfl 22 rfl
       obtain ⟨H, m⟩ := id hJ
       replace hc14 := (Hs.ro 1 rfl).hmd hx10 hi11 (k := 0) (by decide) hc14 m
       exact dp_v (v := (I x9.1)) wn (rv_load1 Tryz.underlying3 rfl e22 hc14) rfl hJ
      refine ⟨?_, ?_⟩
      ·intro _nm ρ σm hJ hoff hdep
       have e22 := hdep 4 rfl rfl 22 rfl
       obtain ⟨H, m⟩ := id hJ
       replace hc14 := (Hs.ro 1 rfl).hmd hx10 hi11 (k := 0) (by decide) hc14 m
       exact dp_v (v := (I x9.1)) wn (rv_load1 Tryz.underlying3 rfl e22 hc14) rfl hJ
      trivial) ?_
    refine ac rfl (by
      intro k _nm ρ σm hJ hoff hdep
      have e1 := look_off (N := 36) (hoff 1 rfl) rfl
      exact dp_v (v := (I Bz)) wn (rv_move e1) rfl hJ) ?_
    refine ac rfl (by
      intro k _nm ρ σm hJ hoff hdep
      have e0 := look_off (N := 36) (hoff 0 rfl) rfl
      exact dp_v (v := (Sl Am Ak Ao)) wn (rv_move e0) rfl hJ) ?_
    refine ac rfl (by
      intro k _nm ρ σm hJ hoff hdep
      have e10 := look_off (N := 36) (hoff 10 rfl) rfl
      exact dp_v (v := (I s4.2)) wn (rv_move e10) rfl hJ) ?_
    refine ac rfl (by
      intro k _nm ρ σm hJ hoff hdep
      have e25 := hdep 7 rfl rfl 25 rfl
      have e26 := hdep 8 rfl rfl 26 rfl
      exact dp_v (v := (pt b18 o19)) wn (rv_ix Tryz.underlying29 ti67 e25 e26 hi17) rfl hJ) ?_
    refine ac rfl (by
      intro k _nm ρ σm hJ hoff hdep
      have e27 := hdep 9 rfl rfl 27 rfl
      exact dp_v (v := (pt b18 (o19 + 1))) wn (rv_fieldAddr (off := 1) (ft := 51) Tryz.underlying67 rfl ti51 rfl e27) rfl hJ) ?_
    refine all_cons (by
      refine ⟨?_, ?_⟩
      ·intro _nm ρ σm hJ hoff hdep
       have e28 := hdep 10 rfl rfl 28 rfl
       obtain ⟨H, m⟩ := id hJ
       replace hc24 := (Hs.ro 1 rfl).hmd hx16 hi17 (k := 1) (by decide) hc24 m
       exact dp_v (v := (Sl a20 x15.2.1 c21)) wn (rv_load1 Tryz.underlying51 rfl e28 hc24) rfl hJ
      trivial) ?_
    refine ac rfl (by
      intro k _nm ρ σm hJ hoff hdep
      have e2 := look_off (N := 36) (hoff 2 rfl) rfl
      exact dp_v (v := (Sl Bl Bc Bm)) wn (rv_move e2) rfl hJ) ?_
    refine all_cons (by
      refine ⟨?_, ?_⟩
      ·intro _nm ρ σm hJ hoff hdep
       have e24 : look 36 ρ 24 = (I Bz) := hdep 6 rfl rfl 24 rfl
       have e29 : look 36 ρ 29 = (Sl a20 x15.2.1 c21) := hdep 11 rfl rfl 29 rfl
       have e30 : look 36 ρ 30 = (Sl Bl Bc Bm) := hdep 12 rfl rfl 30 rfl
       obtain ⟨H, m⟩ := id hJ
       refine dp_cx wn (cx_call hc27 (ent_f hc27.fn (by show [look 36 ρ 24, look 36 ρ 29, look 36 ρ 30] = _; rw [e24, e29, e30])) hn0 (H.sel' [0, 2, 0, 1, 2, 3] rfl rfl : Hp S0 σ0 _ ([_, _] ++ _))) ?_
       rintro _ σq ⟨_, ⟨rfl, rfl⟩, H2, m2⟩
       exact ⟨_, (), rfl, rfl, ⟨H2.sel' [0, 1, 2, 3] rfl rfl, m.comp0 (m2.mono (fun i h => by simp [cov, Ch.ro] at h))⟩, stab [0, 1, 2, 3, 4, 5, 6, 7, 8, 9, 10, 11, 12, 15] (by kernel_rfl) ⟨rfl, rfl, rfl, rfl, rfl, rfl, rfl, rfl, rfl, rfl, rfl, rfl, rfl, rfl, trivial⟩⟩
      trivial) ?_
    refine ac rfl (by
      intro k _nm ρ σm hJ hoff hdep
      have e23 : look 36 ρ 23 = (I x9.1) := hdep 5 rfl rfl 23 rfl
      have e31 : look 36 ρ 31 = (I r25) := hdep 13 rfl rfl 31 rfl
      exact dp_v (v := (.agg #[(I x9.1), (I r25)])) wn (rv_build (ps := [(0, (I x9.1)), (1, (I r25))]) Tryz.underlying81 ti81 (bp81 Tryz.underlying81) (by show [(0, look 36 ρ 23), (1, look 36 ρ 31)] = _; rw [e23, e31]) (by kernel_rfl)) rfl hJ) ?_
    refine ac rfl (by
      intro k _nm ρ σm hJ hoff hdep
      have e3 := look_off (N := 36) (hoff 3 rfl) rfl
      exact dp_v (v := (I Ca)) wn (rv_move e3) rfl hJ) ?_
    exact all_nil
   ·intro _nm ρ σ28 hJ hoff hrel
    have e0 := look_off (N := 36) (hoff 0 rfl) rfl
    have e1 := look_off (N := 36) (hoff 1 rfl) rfl
    have e2 := look_off (N := 36) (hoff 2 rfl) rfl
    have e3 := look_off (N := 36) (hoff 3 rfl) rfl
    have e10 := look_off (N := 36) (hoff 10 rfl) rfl
    have e18 := hrel 0 rfl 18 rfl
    have e32 := hrel 14 rfl 32 rfl
    have e33 := hrel 15 rfl 33 rfl
    obtain ⟨H, -⟩ := (show Hp S0 σ0 σ28 [Ch.ro 0 (Sl a20 x15.2.1 c21) x15.2.1, Ch.ro 0 (Sl Am Ak Ao) Ak, Ch.ro 0 (Sl Bl Bc Bm) Bc, Ch.own n0 n0 (Sl a6 s4.1 c7) s4.1] ∧ Md (cov []) σ5 σ28 from hJ)
    clear hJ Hs
    rw [fr_lookL (L := [(0, (Sl Am Ak Ao)), (1, (I Bz)), (2, (Sl Bl Bc Bm)), (3, (I Ca)), (10, (I s4.2)), (18, (Sl a6 s4.1 c7)), (32, (.agg #[(I x9.1), (I r25)])), (33, (I Ca))]) ⟨e0, e1, e2, e3, e10, e18, e32, e33, trivial⟩]
    clear hoff hrel e0 e1 e2 e3 e10 e18 e32 e33
    obtain ⟨σ29, hw30, H, -⟩ := H.pub 3 rfl (Nat.le_refl _)
    rw [← hw30]; clear hw30
    replace H := H.roLow 0 0 rfl (Nat.zero_le _)
    revert h; refine br fun r31 hx32 h => ?_
    have hc33 := c_spec_addHit (Am := a6) (Ao := c7) hx32
    refine st_call (cx_call hc33 (ent_f hc33.fn rfl) hn0 (H.sel' [0, 0, 1, 2, 3, 4] rfl rfl : Hp S0 σ0 _ ([_] ++ _))) wn ?_
    rintro _ σ36 ⟨_, ⟨a34, c35, rfl, rfl⟩, H, -⟩
    replace H : Hp _ _ _ [_, _, _, _, _, _] := H
    refine sa (Sl a34 r31 c35) rfl (w_end (q_blk (q_then (rg (sm (I s4.2) rfl (st (v := (I (w64 (s4.2 + 1)))) (rv_add (a := s4.2) (b := 1) rfl rfl) (sa (I (w64 (s4.2 + 1))) rfl (w_end (q_then ?_)))))))))
    obtain rfl := sj h
    exact ⟨_, rfl, _, σ36, a34, c35, fr_join ⟨rfl, rfl, rfl, rfl, rfl, rfl, trivial⟩, rfl, H.sel' [4, 5, 0] rfl rfl⟩
  ·replace h := bif_f hb8 h
   refine c_exit (q_then_x (q_then_x (q_blk_hit ?_)))
   obtain rfl := sj h
   obtain rfl := hres _ rfl
   exact ⟨rfl, _, σ5, a6, c7, fr_join ⟨rfl, trivial⟩, rfl, H.sel' [2] rfl rfl⟩
 ·clear hj
  have h := h'
  clear h' H
  rintro e a w ⟨rfl, ρ, σ37, a38, c39, rfl, rfl, H⟩
  refine q_then (c_seq (rg (sm (Sl a38 o3 c39) rfl (sa (Sl a38 o3 c39) rfl (w_end (q_then (c_ret ?_)))))))
  obtain rfl := sj h
  exact fin_ret (v := (Sl a38 o3 c39)) (results_ok Tryz.results38 (res_tmp (v := (Sl a38 o3 c39)) rfl res_nil) rfl) ⟨a38, c39, rfl, rfl⟩ (H.sel' [0] rfl rfl)

theorem c_spec_desk_near {Ba : (List (Int × (List Int) × Int)) × Int} {Cb : List Int} {By : Int} {Be : Option Addr} {Bf : Nat} {Bg Bh Bi : Nat} {Bj Bk : List Value} {Cc : Option Addr} {Cd : Nat} {r : ByteArray} (h : M.spec_desk_near Ba Cb By = some r) :
    Cal2 Tryz.prog 20 [(pt Bh Bi), (Sl Cc Cb Cd), (I By)] [Ch.bx Bg Bh Bi [(Sl Be Ba.1 Bf), (I Ba.2)] Bj Bk, Ch.ro 0 (Sl Be Ba.1 Bf) Ba.1, Ch.ro 0 (Sl Cc Cb Cd) Cb] (fun n0 v L => v = (.string r) ∧ L = [Ch.bx Bg Bh Bi [(Sl Be Ba.1 Bf), (I Ba.2)] Bj Bk]) := by
 refine cal2 (n := 27) Tryz.func20 rfl rfl rfl rfl ?_
 intro S0 σ0 n0 hn0 H
 unfold M.spec_desk_near at h
 refine c_seq (rg (sa (.string (ByteArray.mk #[])) rfl (w_end (q_then (c_seq (c_seq ?_))))))
 obtain ⟨o1, hj, h'⟩ := bind_some h
 clear h
 refine c_cut (fun e a w => e = .normal ∧ ∃ (ρ : Nat → Value) (σ : St), a = fr 27 (updL ρ [(0, (pt Bh Bi)), (1, (Sl Cc Cb Cd)), (2, (I By)), (14, (B o1))]) ∧ w = σ.w ∧ Hp S0 σ0 σ [Ch.ro 0 (Sl Be Ba.1 Bf) Ba.1, Ch.bx Bg Bh Bi [(Sl Be Ba.1 Bf), (I Ba.2)] Bj Bk, Ch.ro 0 (Sl Cc Cb Cd) Cb]) ?_ ?_
 ·clear h'
  rename _ = some o1 => h
  refine rg (sm (Sl Cc Cb Cd) rfl ?_)
  revert h; refine br fun r2 hx3 h => ?_
  have hc4 := c_spec_isVector (Aq := Cc) (Ar := Cd) hx3
  refine st_call (cx_call hc4 (ent_f hc4.fn rfl) hn0 (H.sel' [2, 0, 1, 2] rfl rfl : Hp S0 σ0 _ ([_] ++ _))) wn ?_
  rintro _ σ5 ⟨_, ⟨rfl, rfl⟩, H, -⟩
  replace H : Hp _ _ _ [_, _, _] := H
  refine st (v := (B (!r2))) (rv_not rfl) (sm (B (!r2)) rfl ?_)
  rcases Bool.eq_false_or_eq_true (!r2) with hb6 | hb6
  ·replace h := bif_t hb6 h
   refine st_skip (congrArg some hb6) (st_skip (congrArg some hb6) (st_skip (congrArg some hb6) (st (v := (B true)) (rv_pick_t (congrArg B hb6) rfl) (w_end ?_))))
   obtain rfl := sj h
   exact ⟨rfl, _, σ5, fr_join ⟨rfl, rfl, rfl, rfl, trivial⟩, rfl, H.sel' [1, 0, 2] rfl rfl⟩
  ·replace h := bif_f hb6 h
   refine st_g (v := (I By)) (congrArg some hb6) (rv_move rfl) ?_
   revert h; refine br fun r7 hx8 h => ?_
   have hc9 := c_spec_inRange hx8
   refine st_call (cx_call hc9 (ent_f hc9.fn rfl) hn0 (H.sel' [0, 1, 2] rfl rfl : Hp S0 σ0 _ ([] ++ _))) (wanted_yes rfl (by exact (congrArg some hb6))) ?_
   rintro _ σ10 ⟨_, ⟨rfl, rfl⟩, H, -⟩
   replace H : Hp _ _ _ [_, _, _] := H
   refine st_g (v := (B (!r7))) (congrArg some hb6) (rv_not rfl) (st (v := (B (!r7))) (rv_pick_f (congrArg B hb6) rfl) (w_end ?_))
   obtain rfl := sj h
   exact ⟨rfl, _, σ10, fr_join ⟨rfl, rfl, rfl, rfl, trivial⟩, rfl, H.sel' [1, 0, 2] rfl rfl⟩
 ·clear hj
  have h := h'
  clear h' H
  rintro e a w ⟨rfl, ρ, σ11, rfl, rfl, H⟩
  refine q_then ?_
  refine cd_cond o1 rfl (fun hb12 => ?_) (fun hb12 => ?_)
  ·replace h := bif_t hb12 h
   refine c_seq (rg (sa (.string (ByteArray.mk #[110, 111])) rfl (w_end (q_then (c_ret (q_then_r ?_))))))
   obtain rfl := sj h
   exact fin_ret (v := (.string (ByteArray.mk #[110, 111]))) (results_ok Tryz.results20 (res_tmp (v := (.string (ByteArray.mk #[110, 111]))) rfl res_nil) rfl) ⟨rfl, rfl⟩ (H.sel' [1] rfl rfl)
  ·replace h := bif_f hb12 h
   refine c_skip (q_then (c_seq ?_))
   refine rgP (σ := σ11) 10 (by kernel_rfl) (by kernel_rfl) (by kernel_rfl) ?_
   refine sq (v := (pt Bh Bi)) (rv_move rfl) (sq (v := (pt Bh Bi)) (rv_nilCheck rfl) (sq (v := (pt Bh Bi)) (rv_fieldAddr (off := 0) (ft := 29) Tryz.underlying31 rfl ti29 rfl rfl) ?_))
   have hc13 := H.cell (u := (Sl Be Ba.1 Bf)) (o' := Bi) 1 0 rfl rfl rfl
   refine sq (v := (Sl Be Ba.1 Bf)) (rv_load1 Tryz.underlying29 rfl rfl hc13) (sq (v := (pt Bh Bi)) (rv_move rfl) (sq (v := (pt Bh Bi)) (rv_nilCheck rfl) (sq (v := (pt Bh (Bi + 1))) (rv_fieldAddr (off := 1) (ft := 3) Tryz.underlying31 rfl ti3 rfl rfl) ?_)))
   have hc14 := H.cell (u := (I Ba.2)) (o' := (Bi + 1)) 1 1 rfl rfl rfl
   refine sq (v := (I Ba.2)) (rv_load1 Tryz.underlying3 rfl rfl hc14) (sq (v := (Sl Cc Cb Cd)) (rv_move rfl) (sq (v := (I By)) (rv_move rfl) (sq_end ?_)))
   intro σ15 hm16
   replace H := H.grow (hm16.mono fun _ h => h); clear hm16
   revert h; refine br fun r17 hx18 h => ?_
   have hc19 := c_spec_nearest (Am := Be) (Ao := Bf) (Bl := Cc) (Bm := Cd) hx18
   refine st_call (cx_call hc19 (ent_f hc19.fn rfl) hn0 (H.sel' [0, 2, 0, 1, 2] rfl rfl : Hp S0 σ0 _ ([_, _] ++ _))) wn ?_
   rintro _ σ22 ⟨_, ⟨a20, c21, rfl, rfl⟩, H, -⟩
   replace H : Hp _ _ _ [_, _, _, _] := H
   obtain ⟨σ23, hw24, H, -⟩ := H.pub 0 rfl (Nat.le_refl _)
   rw [← hw24]; clear hw24
   replace H := H.roLow 0 0 rfl (Nat.zero_le _)
   revert h; refine br fun r25 hx26 h => ?_
   have hc27 := c_spec_hitsText (Am := a20) (Ao := c21) hx26
   refine st_call (cx_call hc27 (ent_f hc27.fn rfl) hn0 (H.sel' [0, 0, 1, 2, 3, 4] rfl rfl : Hp S0 σ0 _ ([_] ++ _))) wn ?_
   rintro _ σ28 ⟨_, ⟨rfl, rfl⟩, H, -⟩
   replace H : Hp _ _ _ [_, _, _, _, _] := H
   refine sa (.string r25) rfl (w_end (q_then (c_ret ?_)))
   obtain rfl := sj h
   exact fin_ret (v := (.string r25)) (results_ok Tryz.results20 (res_tmp (v := (.string r25)) rfl res_nil) rfl) ⟨rfl, rfl⟩ (H.sel' [3] rfl rfl)

theorem c_spec_validKind {Bo : Int}  {r : Bool} (h : M.spec_validKind Bo = some r) :
    Cal2 Tryz.prog 21 [(I Bo)] [] (fun n0 v L => v = (B r) ∧ L = []) := by
 refine cal2 (n := 5) Tryz.func21 rfl rfl rfl rfl ?_
 intro S0 σ0 n0 hn0 H
 unfold M.spec_validKind at h
 refine c_seq (rg (sa (B false) rfl (w_end (q_then (c_seq (rg (sm (I Bo) rfl ?_)))))))
 revert h; refine br fun r1 hx2 h => ?_
 have hc3 := c_spec_inRange hx2
 refine st_call (cx_call hc3 (ent_f hc3.fn rfl) hn0 (H.sel' [] rfl rfl : Hp S0 σ0 _ ([] ++ _))) wn ?_
 rintro _ σ4 ⟨_, ⟨rfl, rfl⟩, H, -⟩
 replace H : Hp _ _ _ [] := H
 refine sa (B r1) rfl (w_end (q_then (c_ret ?_)))
 obtain rfl := sj h
 exact fin_ret (v := (B r1)) (results_ok Tryz.results21 (res_tmp (v := (B r1)) rfl res_nil) rfl) ⟨rfl, rfl⟩ (H.sel' [] rfl rfl)

theorem c_spec_ClosestPair {Ak : List (Int × (List Int) × Int)} {Bz : Int} {Am : Option Addr} {Ao : Nat} {r : Int × Int × Bool} (h : M.spec_ClosestPair Ak Bz = some r) :
    Cal2 Tryz.prog 22 [(Sl Am Ak Ao), (I Bz)] [Ch.ro 0 (Sl Am Ak Ao) Ak] (fun n0 v L => v = (.tuple #[(I r.1), (I r.2.1), (B r.2.2)]) ∧ L = []) := by
 refine cal2 (n := 75) Tryz.func22 rfl rfl rfl rfl ?_
 intro S0 σ0 n0 hn0 H
 unfold M.spec_ClosestPair at h
 refine c_seq (rg (sa (I 0) rfl (sa (I 0) rfl (sa (B false) rfl (w_end (q_then (c_seq (c_seq ?_))))))))
 obtain ⟨o1, hj, h'⟩ := bind_some h
 clear h
 refine c_cut (fun e a w => e = .normal ∧ ∃ (ρ : Nat → Value) (σ : St), a = fr 75 (updL ρ [(0, (Sl Am Ak Ao)), (1, (I Bz)), (23, (B o1))]) ∧ w = σ.w ∧ Hp S0 σ0 σ [Ch.ro 0 (Sl Am Ak Ao) Ak]) ?_ ?_
 ·clear h'
  rename _ = some o1 => h
  refine rg (sm (Sl Am Ak Ao) rfl ?_)
  revert h; refine br fun r2 hx3 h => ?_
  have hc4 := c_spec_validStore (Am := Am) (Ao := Ao) hx3
  refine st_call (cx_call hc4 (ent_f hc4.fn rfl) hn0 (H.sel' [0, 0] rfl rfl : Hp S0 σ0 _ ([_] ++ _))) wn ?_
  rintro _ σ5 ⟨_, ⟨rfl, rfl⟩, H, -⟩
  replace H : Hp _ _ _ [_] := H
  refine st (v := (B (!r2))) (rv_not rfl) (sm (B (!r2)) rfl ?_)
  rcases Bool.eq_false_or_eq_true (!r2) with hb6 | hb6
  ·replace h := bif_t hb6 h
   refine st_skip (congrArg some hb6) (st_skip (congrArg some hb6) (st_skip (congrArg some hb6) (st (v := (B true)) (rv_pick_t (congrArg B hb6) rfl) (sm (B true) rfl (st_skip rfl (st_skip rfl (st_skip rfl (st (v := (B true)) (rv_pick_t rfl rfl) (w_end ?_)))))))))
   obtain rfl := sj h
   exact ⟨rfl, _, σ5, fr_join ⟨rfl, rfl, rfl, trivial⟩, rfl, H.sel' [0] rfl rfl⟩
  ·replace h := bif_f hb6 h
   refine st_g (v := (I Bz)) (congrArg some hb6) (rv_move rfl) ?_
   revert h; refine br fun r7 hx8 h => ?_
   have hc9 := c_spec_validKind hx8
   refine st_call (cx_call hc9 (ent_f hc9.fn rfl) hn0 (H.sel' [0] rfl rfl : Hp S0 σ0 _ ([] ++ _))) (wanted_yes rfl (by exact (congrArg some hb6))) ?_
   rintro _ σ10 ⟨_, ⟨rfl, rfl⟩, H, -⟩
   replace H : Hp _ _ _ [_] := H
   refine st_g (v := (B (!r7))) (congrArg some hb6) (rv_not rfl) (st (v := (B (!r7))) (rv_pick_f (congrArg B hb6) rfl) (sm (B (!r7)) rfl ?_))
   rcases Bool.eq_false_or_eq_true (!r7) with hb11 | hb11
   ·replace h := bif_t hb11 h
    refine st_skip (congrArg some hb11) (st_skip (congrArg some hb11) (st_skip (congrArg some hb11) (st (v := (B true)) (rv_pick_t (congrArg B hb11) rfl) (w_end ?_))))
    obtain rfl := sj h
    exact ⟨rfl, _, σ10, fr_join ⟨rfl, rfl, rfl, trivial⟩, rfl, H.sel' [0] rfl rfl⟩
   ·replace h := bif_f hb11 h
    refine st_g (v := (Sl Am Ak Ao)) (congrArg some hb11) (rv_move rfl) (st_g (v := (I (Ak.length : Int))) (congrArg some hb11) (rv_len Tryz.underlying29 rfl) (st_g (v := (B (decide ((Ak.length : Int) < 2)))) (congrArg some hb11) (rv_lss (a := (Ak.length : Int)) (b := 2) rfl rfl) (st (v := (B (decide ((Ak.length : Int) < 2)))) (rv_pick_f (congrArg B hb11) rfl) (w_end ?_))))
    obtain rfl := sj h
    exact ⟨rfl, _, σ10, fr_join ⟨rfl, rfl, rfl, trivial⟩, rfl, H.sel' [0] rfl rfl⟩
 ·clear hj
  have h := h'
  clear h' H
  rintro e a w ⟨rfl, ρ, σ12, rfl, rfl, H⟩
  refine q_then ?_
  refine cd_cond o1 rfl (fun hb13 => ?_) (fun hb13 => ?_)
  ·replace h := bif_t hb13 h
   refine c_seq (rg (sa (I 0) rfl (sa (I 0) rfl (sa (B false) rfl (w_end (q_then (c_ret (q_then_r ?_))))))))
   obtain rfl := sj h
   exact fin_ret (v := (.tuple #[(I 0), (I 0), (B false)])) (results_ok Tryz.results22 (res_tmp (v := (I 0)) rfl (res_tmp (v := (I 0)) rfl (res_tmp (v := (B false)) rfl res_nil))) rfl) ⟨rfl, rfl⟩ (H.sel' [] rfl rfl)
  ·replace h := bif_f hb13 h
   refine c_skip (q_then (c_seq (rg (sa (I 0) rfl (w_end (q_then (c_seq (rg (sa (I 1) rfl (w_end (q_then ?_)))))))))))
   refine c_seq (c_seq (rg (sa (I 0) rfl (w_end (q_then ?_)))))
   obtain ⟨o14, hj, h'⟩ := bind_some h
   clear h
   refine c_cut (fun e a w => e = .normal ∧ ∃ (ρ : Nat → Value) (σ : St), a = fr 75 (updL ρ [(0, (Sl Am Ak Ao)), (7, (I o14.1)), (8, (I o14.2))]) ∧ w = σ.w ∧ Hp S0 σ0 σ [Ch.ro 0 (Sl Am Ak Ao) Ak]) ?_ ?_
   ·clear h'
    rename _ = some o14 => h
    refine c_blk (wp_loopM _ h (fun s15 a w => ∃ (ρ : Nat → Value) (σ : St), a = fr 75 (updL ρ [(0, (Sl Am Ak Ao)), (1, (I Bz)), (7, (I s15.1)), (8, (I s15.2.1)), (9, (I s15.2.2))]) ∧ w = σ.w ∧ Hp S0 σ0 σ [Ch.ro 0 (Sl Am Ak Ao) Ak]) ⟨_, σ12, fr_join ⟨rfl, rfl, rfl, rfl, rfl, trivial⟩, rfl, H.sel' [0] rfl rfl⟩ ?_)
    clear h H
    rintro s15 a w o ⟨ρ, σ16, rfl, rfl, H⟩ h hres
    refine c_seq (c_seq (rg (sm (I s15.2.2) rfl (sm (Sl Am Ak Ao) rfl (st (v := (I (Ak.length : Int))) (rv_len Tryz.underlying29 rfl) (st (v := (B (decide (s15.2.2 < (Ak.length : Int))))) (rv_lss (a := s15.2.2) (b := (Ak.length : Int)) rfl rfl) (w_end (q_then ?_))))))))
    refine cd_cond (decide (s15.2.2 < (Ak.length : Int))) rfl (fun hb17 => ?_) (fun hb17 => ?_)
    ·replace h := bif_t hb17 h
     refine c_skip (q_then (c_seq (c_blk (c_seq (rg (sm (I s15.2.2) rfl (st (v := (I (w64 (s15.2.2 + 1)))) (rv_add (a := s15.2.2) (b := 1) rfl rfl) (sa (I (w64 (s15.2.2 + 1))) rfl (w_end (q_then ?_))))))))))
     obtain ⟨o18, hj, h'⟩ := bind_some h
     clear h
     refine c_cut (fun e a w => e = .normal ∧ ∃ (ρ : Nat → Value) (σ : St), a = fr 75 (updL ρ [(0, (Sl Am Ak Ao)), (1, (I Bz)), (7, (I o18.1)), (8, (I o18.2)), (9, (I s15.2.2))]) ∧ w = σ.w ∧ Hp S0 σ0 σ [Ch.ro 0 (Sl Am Ak Ao) Ak]) ?_ ?_
     ·clear h'
      rename _ = some o18 => h
      refine c_blk (wp_loopM _ h (fun s19 a w => ∃ (ρ : Nat → Value) (σ : St), a = fr 75 (updL ρ [(0, (Sl Am Ak Ao)), (1, (I Bz)), (7, (I s19.1)), (8, (I s19.2.1)), (9, (I s15.2.2)), (10, (I s19.2.2))]) ∧ w = σ.w ∧ Hp S0 σ0 σ [Ch.ro 0 (Sl Am Ak Ao) Ak]) ⟨_, σ16, fr_join ⟨rfl, rfl, rfl, rfl, rfl, rfl, trivial⟩, rfl, H.sel' [0] rfl rfl⟩ ?_)
      clear h H
      rintro s19 a w o ⟨ρ, σ20, rfl, rfl, H⟩ h hres
      refine c_seq (c_seq (rg (sm (I s19.2.2) rfl (sm (Sl Am Ak Ao) rfl (st (v := (I (Ak.length : Int))) (rv_len Tryz.underlying29 rfl) (st (v := (B (decide (s19.2.2 < (Ak.length : Int))))) (rv_lss (a := s19.2.2) (b := (Ak.length : Int)) rfl rfl) (w_end (q_then ?_))))))))
      refine cd_cond (decide (s19.2.2 < (Ak.length : Int))) rfl (fun hb21 => ?_) (fun hb21 => ?_)
      ·replace h := bif_t hb21 h
       refine c_skip (q_then (c_seq ?_))
       obtain ⟨o22, hj, h'⟩ := bind_some h
       clear h
       refine c_cut (fun e a w => e = .normal ∧ ∃ (ρ : Nat → Value) (σ : St), a = fr 75 (updL ρ [(0, (Sl Am Ak Ao)), (1, (I Bz)), (7, (I o22.1)), (8, (I o22.2)), (9, (I s15.2.2)), (10, (I s19.2.2))]) ∧ w = σ.w ∧ Hp S0 σ0 σ [Ch.ro 0 (Sl Am Ak Ao) Ak]) ?_ ?_
       ·clear h'
        rename _ = some o22 => h
        refine c_blk (c_seq ?_)
        revert h; refine br fun x23 hx24 h => ?_
        obtain ⟨b26, o27, hi25, -⟩ := (H.ro 0 rfl).ix hx24
        obtain ⟨v31, hc32, hR30⟩ := ((H.ro 0 rfl).at hx24 hi25).snd.fst.slice
        obtain ⟨a28, c29, rfl⟩ := hR30.isSl
        replace H := H.add (d := Ch.ro 0 (Sl a28 x23.2.1 c29) x23.2.1) hR30 (fun _ h => h)
        clear hR30
        revert h; refine br fun x33 hx34 h => ?_
        obtain ⟨b36, o37, hi35, -⟩ := (H.ro 1 rfl).ix hx34
        obtain ⟨v41, hc42, hR40⟩ := ((H.ro 1 rfl).at hx34 hi35).snd.fst.slice
        obtain ⟨a38, c39, rfl⟩ := hR40.isSl
        replace H := H.add (d := Ch.ro 0 (Sl a38 x33.2.1 c39) x33.2.1) hR40 (fun _ h => h)
        clear hR40
        revert h; refine br fun r43 hx44 h => ?_
        have hc45 := c_spec_dist (Br := a28) (Bs := c29) (Bt := a38) (Bu := c39) hx44
        revert h; refine br fun x46 hx47 h => ?_
        obtain ⟨b49, o50, hi48, -⟩ := (H.ro 2 rfl).ix hx47
        obtain ⟨v54, hc55, hR53⟩ := ((H.ro 2 rfl).at hx47 hi48).snd.fst.slice
        obtain ⟨a51, c52, rfl⟩ := hR53.isSl
        replace H := H.add (d := Ch.ro 0 (Sl a51 x46.2.1 c52) x46.2.1) hR53 (fun _ h => h)
        clear hR53
        revert h; refine br fun x56 hx57 h => ?_
        obtain ⟨b59, o60, hi58, -⟩ := (H.ro 3 rfl).ix hx57
        obtain ⟨v64, hc65, hR63⟩ := ((H.ro 3 rfl).at hx57 hi58).snd.fst.slice
        obtain ⟨a61, c62, rfl⟩ := hR63.isSl
        replace H := H.add (d := Ch.ro 0 (Sl a61 x56.2.1 c62) x56.2.1) hR63 (fun _ h => h)
        clear hR63
        have Hs := H
        refine rg2 (σ := σ20) (Nm := Unit) 23 [11] [[false], [true]] [[(0, 0)], [(0, 0)], [(0, 0)], [(0, 0)], [(0, 0)], [(0, 0)], [(0, 0)], [(0, 0)], [(0, 0)], [(0, 0)], [(0, 0)], [(0, 1)], [(0, 0), (1, 1)], [(0, 0), (1, 1)], [(0, 0), (1, 1)], [(0, 0), (1, 1)], [(0, 0), (1, 1)], [(0, 0), (1, 1)], [(0, 0), (1, 1)], [(0, 0), (1, 1)], [(0, 0), (1, 1)], [(0, 0), (1, 1)], [(0, 0), (1, 1)]] 1 [fun _ => fun σm => Hp S0 σ0 σm [Ch.ro 0 (Sl a61 x56.2.1 c62) x56.2.1, Ch.ro 0 (Sl a51 x46.2.1 c52) x46.2.1, Ch.ro 0 (Sl a38 x33.2.1 c39) x33.2.1, Ch.ro 0 (Sl a28 x23.2.1 c29) x23.2.1, Ch.ro 0 (Sl Am Ak Ao) Ak] ∧ Md (cov []) σ20 σm, fun _ => fun σm => Hp S0 σ0 σm [Ch.ro 0 (Sl a61 x56.2.1 c62) x56.2.1, Ch.ro 0 (Sl a51 x46.2.1 c52) x46.2.1, Ch.ro 0 (Sl a38 x33.2.1 c39) x33.2.1, Ch.ro 0 (Sl a28 x23.2.1 c29) x23.2.1, Ch.ro 0 (Sl Am Ak Ao) Ak] ∧ Md (cov []) σ20 σm] [fun _ => (I Bz), fun _ => (Sl Am Ak Ao), fun _ => (I s15.2.2), fun _ => (pt b26 o27), fun _ => (pt b26 (o27 + 1)), fun _ => (Sl a28 x23.2.1 c29), fun _ => (Sl Am Ak Ao), fun _ => (I s19.2.2), fun _ => (pt b36 o37), fun _ => (pt b36 (o37 + 1)), fun _ => (Sl a38 x33.2.1 c39), fun _ => (I r43), fun _ => (I Bz), fun _ => (Sl Am Ak Ao), fun _ => (I s19.1), fun _ => (pt b49 o50), fun _ => (pt b49 (o50 + 1)), fun _ => (Sl a51 x46.2.1 c52), fun _ => (Sl Am Ak Ao), fun _ => (I s19.2.1), fun _ => (pt b59 o60), fun _ => (pt b59 (o60 + 1)), fun _ => (Sl a61 x56.2.1 c62)] () (by kernel_rfl) (by kernel_rfl) ?_ ?_ ?_
        ·intro σm m0
         exact ⟨H.grow (m0.mono fun _ h => h.elim), m0⟩
        ·refine ac rfl (by
           intro k _nm ρ σm hJ hoff hdep
           have e1 := look_off (N := 75) (hoff 1 rfl) rfl
           exact dp_v (v := (I Bz)) wn (rv_move e1) rfl hJ) ?_
         refine ac rfl (by
           intro k _nm ρ σm hJ hoff hdep
           have e0 := look_off (N := 75) (hoff 0 rfl) rfl
           exact dp_v (v := (Sl Am Ak Ao)) wn (rv_move e0) rfl hJ) ?_
         refine ac rfl (by
           intro k _nm ρ σm hJ hoff hdep
           have e9 := look_off (N := 75) (hoff 9 rfl) rfl
           exact dp_v (v := (I s15.2.2)) wn (rv_move e9) rfl hJ) ?_
         refine ac rfl (by
           intro k _nm ρ σm hJ hoff hdep
           have e39 := hdep 1 rfl rfl 39 rfl
           have e40 := hdep 2 rfl rfl 40 rfl
           exact dp_v (v := (pt b26 o27)) wn (rv_ix Tryz.underlying29 ti67 e39 e40 hi25) rfl hJ) ?_
         refine ac rfl (by
           intro k _nm ρ σm hJ hoff hdep
           have e41 := hdep 3 rfl rfl 41 rfl
           exact dp_v (v := (pt b26 (o27 + 1))) wn (rv_fieldAddr (off := 1) (ft := 51) Tryz.underlying67 rfl ti51 rfl e41) rfl hJ) ?_
         refine all_cons (by
           refine ⟨?_, ?_⟩
           ·intro _nm ρ σm hJ hoff hdep
            have e42 := hdep 4 rfl rfl 42 rfl
            obtain ⟨H, m⟩ := id hJ
            replace hc32 := (Hs.ro 4 rfl).hmd hx24 hi25 (k := 1) (by decide) hc32 m
            exact dp_v (v := (Sl a28 x23.2.1 c29)) wn (rv_load1 Tryz.underlying51 rfl e42 hc32) rfl hJ
           trivial) ?_
         refine ac rfl (by
           intro k _nm ρ σm hJ hoff hdep
           have e0 := look_off (N := 75) (hoff 0 rfl) rfl
           exact dp_v (v := (Sl Am Ak Ao)) wn (rv_move e0) rfl hJ) ?_
         refine ac rfl (by
           intro k _nm ρ σm hJ hoff hdep
           have e10 := look_off (N := 75) (hoff 10 rfl) rfl
           exact dp_v (v := (I s19.2.2)) wn (rv_move e10) rfl hJ) ?_
         refine ac rfl (by
           intro k _nm ρ σm hJ hoff hdep
           have e44 := hdep 6 rfl rfl 44 rfl
           have e45 := hdep 7 rfl rfl 45 rfl
           exact dp_v (v := (pt b36 o37)) wn (rv_ix Tryz.underlying29 ti67 e44 e45 hi35) rfl hJ) ?_
         refine ac rfl (by
           intro k _nm ρ σm hJ hoff hdep
           have e46 := hdep 8 rfl rfl 46 rfl
           exact dp_v (v := (pt b36 (o37 + 1))) wn (rv_fieldAddr (off := 1) (ft := 51) Tryz.underlying67 rfl ti51 rfl e46) rfl hJ) ?_
         refine all_cons (by
           refine ⟨?_, ?_⟩
           ·intro _nm ρ σm hJ hoff hdep
            have e47 := hdep 9 rfl rfl 47 rfl
            obtain ⟨H, m⟩ := id hJ
            replace hc42 := (Hs.ro 4 rfl).hmd hx34 hi35 (k := 1) (by decide) hc42 m
            exact dp_v (v := (Sl a38 x33.2.1 c39)) wn (rv_load1 Tryz.underlying51 rfl e47 hc42) rfl hJ
           trivial) ?_
         refine all_cons (by
           refine ⟨?_, ?_⟩
           ·intro _nm ρ σm hJ hoff hdep
            have e38 : look 75 ρ 38 = (I Bz) := hdep 0 rfl rfl 38 rfl
            have e43 : look 75 ρ 43 = (Sl a28 x23.2.1 c29) := hdep 5 rfl rfl 43 rfl
            have e48 : look 75 ρ 48 = (Sl a38 x33.2.1 c39) := hdep 10 rfl rfl 48 rfl
            obtain ⟨H, m⟩ := id hJ
            refine dp_cx wn (cx_call hc45 (ent_f hc45.fn (by show [look 75 ρ 38, look 75 ρ 43, look 75 ρ 48] = _; rw [e38, e43, e48])) hn0 (H.sel' [3, 2, 0, 1, 2, 3, 4] rfl rfl : Hp S0 σ0 _ ([_, _] ++ _))) ?_
            rintro _ σq ⟨_, ⟨rfl, rfl⟩, H2, m2⟩
            exact ⟨_, (), rfl, rfl, ⟨H2.sel' [0, 1, 2, 3, 4] rfl rfl, m.comp0 (m2.mono (fun i h => by simp [cov, Ch.ro] at h))⟩, stab [0, 1, 2, 3, 4, 5, 6, 7, 8, 9, 10, 12, 13, 14, 15, 16, 17, 18, 19, 20, 21, 22] (by kernel_rfl) ⟨rfl, rfl, rfl, rfl, rfl, rfl, rfl, rfl, rfl, rfl, rfl, rfl, rfl, rfl, rfl, rfl, rfl, rfl, rfl, rfl, rfl, rfl, trivial⟩⟩
           trivial) ?_
         refine ac rfl (by
           intro k _nm ρ σm hJ hoff hdep
           have e1 := look_off (N := 75) (hoff 1 rfl) rfl
           exact dp_v (v := (I Bz)) wn (rv_move e1) rfl hJ) ?_
         refine ac rfl (by
           intro k _nm ρ σm hJ hoff hdep
           have e0 := look_off (N := 75) (hoff 0 rfl) rfl
           exact dp_v (v := (Sl Am Ak Ao)) wn (rv_move e0) rfl hJ) ?_
         refine ac rfl (by
           intro k _nm ρ σm hJ hoff hdep
           have e7 := look_off (N := 75) (hoff 7 rfl) rfl
           exact dp_v (v := (I s19.1)) wn (rv_move e7) rfl hJ) ?_
         refine ac rfl (by
           intro k _nm ρ σm hJ hoff hdep
           have e51 := hdep 13 rfl rfl 51 rfl
           have e52 := hdep 14 rfl rfl 52 rfl
           exact dp_v (v := (pt b49 o50)) wn (rv_ix Tryz.underlying29 ti67 e51 e52 hi48) rfl hJ) ?_
         refine ac rfl (by
           intro k _nm ρ σm hJ hoff hdep
           have e53 := hdep 15 rfl rfl 53 rfl
           exact dp_v (v := (pt b49 (o50 + 1))) wn (rv_fieldAddr (off := 1) (ft := 51) Tryz.underlying67 rfl ti51 rfl e53) rfl hJ) ?_
         refine all_cons (by
           refine ⟨?_, ?_⟩
           ·intro _nm ρ σm hJ hoff hdep
            have e54 := hdep 16 rfl rfl 54 rfl
            obtain ⟨H, m⟩ := id hJ
            replace hc55 := (Hs.ro 4 rfl).hmd hx47 hi48 (k := 1) (by decide) hc55 m
            exact dp_v (v := (Sl a51 x46.2.1 c52)) wn (rv_load1 Tryz.underlying51 rfl e54 hc55) rfl hJ
           refine ⟨?_, ?_⟩
           ·intro _nm ρ σm hJ hoff hdep
            have e54 := hdep 16 rfl rfl 54 rfl
            obtain ⟨H, m⟩ := id hJ
            replace hc55 := (Hs.ro 4 rfl).hmd hx47 hi48 (k := 1) (by decide) hc55 m
            exact dp_v (v := (Sl a51 x46.2.1 c52)) wn (rv_load1 Tryz.underlying51 rfl e54 hc55) rfl hJ
           trivial) ?_
         refine ac rfl (by
           intro k _nm ρ σm hJ hoff hdep
           have e0 := look_off (N := 75) (hoff 0 rfl) rfl
           exact dp_v (v := (Sl Am Ak Ao)) wn (rv_move e0) rfl hJ) ?_
         refine ac rfl (by
           intro k _nm ρ σm hJ hoff hdep
           have e8 := look_off (N := 75) (hoff 8 rfl) rfl
           exact dp_v (v := (I s19.2.1)) wn (rv_move e8) rfl hJ) ?_
         refine ac rfl (by
           intro k _nm ρ σm hJ hoff hdep
           have e56 := hdep 18 rfl rfl 56 rfl
           have e57 := hdep 19 rfl rfl 57 rfl
           exact dp_v (v := (pt b59 o60)) wn (rv_ix Tryz.underlying29 ti67 e56 e57 hi58) rfl hJ) ?_
         refine ac rfl (by
           intro k _nm ρ σm hJ hoff hdep
           have e58 := hdep 20 rfl rfl 58 rfl
           exact dp_v (v := (pt b59 (o60 + 1))) wn (rv_fieldAddr (off := 1) (ft := 51) Tryz.underlying67 rfl ti51 rfl e58) rfl hJ) ?_
         refine all_cons (by
           refine ⟨?_, ?_⟩
           ·intro _nm ρ σm hJ hoff hdep
            have e59 := hdep 21 rfl rfl 59 rfl
            obtain ⟨H, m⟩ := id hJ
            replace hc65 := (Hs.ro 4 rfl).hmd hx57 hi58 (k := 1) (by decide) hc65 m
            exact dp_v (v := (Sl a61 x56.2.1 c62)) wn (rv_load1 Tryz.underlying51 rfl e59 hc65) rfl hJ
           refine ⟨?_, ?_⟩
           ·intro _nm ρ σm hJ hoff hdep
            have e59 := hdep 21 rfl rfl 59 rfl
            obtain ⟨H, m⟩ := id hJ
            replace hc65 := (Hs.ro 4 rfl).hmd hx57 hi58 (k := 1) (by decide) hc65 m
            exact dp_v (v := (Sl a61 x56.2.1 c62)) wn (rv_load1 Tryz.underlying51 rfl e59 hc65) rfl hJ
           trivial) ?_
         exact all_nil
        ·intro _nm ρ σ66 hJ hoff hrel
         have e0 := look_off (N := 75) (hoff 0 rfl) rfl
         have e1 := look_off (N := 75) (hoff 1 rfl) rfl
         have e7 := look_off (N := 75) (hoff 7 rfl) rfl
         have e8 := look_off (N := 75) (hoff 8 rfl) rfl
         have e9 := look_off (N := 75) (hoff 9 rfl) rfl
         have e10 := look_off (N := 75) (hoff 10 rfl) rfl
         have e49 := hrel 11 rfl 49 rfl
         have e50 := hrel 12 rfl 50 rfl
         have e55 := hrel 17 rfl 55 rfl
         have e60 := hrel 22 rfl 60 rfl
         obtain ⟨H, -⟩ := (show Hp S0 σ0 σ66 [Ch.ro 0 (Sl a61 x56.2.1 c62) x56.2.1, Ch.ro 0 (Sl a51 x46.2.1 c52) x46.2.1, Ch.ro 0 (Sl a38 x33.2.1 c39) x33.2.1, Ch.ro 0 (Sl a28 x23.2.1 c29) x23.2.1, Ch.ro 0 (Sl Am Ak Ao) Ak] ∧ Md (cov []) σ20 σ66 from hJ)
         clear hJ Hs
         rw [fr_lookL (L := [(0, (Sl Am Ak Ao)), (1, (I Bz)), (7, (I s19.1)), (8, (I s19.2.1)), (9, (I s15.2.2)), (10, (I s19.2.2)), (49, (I r43)), (50, (I Bz)), (55, (Sl a51 x46.2.1 c52)), (60, (Sl a61 x56.2.1 c62))]) ⟨e0, e1, e7, e8, e9, e10, e49, e50, e55, e60, trivial⟩]
         clear hoff hrel e0 e1 e7 e8 e9 e10 e49 e50 e55 e60
         revert h; refine br fun r67 hx68 h => ?_
         have hc69 := c_spec_dist (Br := a51) (Bs := c52) (Bt := a61) (Bu := c62) hx68
         refine st_call (cx_call hc69 (ent_f hc69.fn rfl) hn0 (H.sel' [1, 0, 0, 1, 2, 3, 4] rfl rfl : Hp S0 σ0 _ ([_, _] ++ _))) wn ?_
         rintro _ σ70 ⟨_, ⟨rfl, rfl⟩, H, -⟩
         replace H : Hp _ _ _ [_, _, _, _, _] := H
         refine st (v := (B (decide (r43 < r67)))) (rv_lss (a := r43) (b := r67) rfl rfl) (w_end (q_then ?_))
         refine cd_cond (decide (r43 < r67)) rfl (fun hb71 => ?_) (fun hb71 => ?_)
         ·replace h := bif_t hb71 h
          refine c_seq (rg (sm (I s15.2.2) rfl (sa (I s15.2.2) rfl (w_end (q_then (rg (sm (I s19.2.2) rfl (sa (I s19.2.2) rfl (w_end (q_blk ?_))))))))))
          obtain rfl := sj h
          exact ⟨rfl, _, σ70, fr_join ⟨rfl, rfl, rfl, rfl, rfl, rfl, trivial⟩, rfl, H.sel' [4] rfl rfl⟩
         ·replace h := bif_f hb71 h
          refine c_skip (q_blk ?_)
          obtain rfl := sj h
          exact ⟨rfl, _, σ70, fr_join ⟨rfl, rfl, rfl, rfl, rfl, rfl, trivial⟩, rfl, H.sel' [4] rfl rfl⟩
       ·clear hj
        have h := h'
        clear h' H
        rintro e a w ⟨rfl, ρ, σ72, rfl, rfl, H⟩
        refine q_then (rg (sm (I s19.2.2) rfl (st (v := (I (w64 (s19.2.2 + 1)))) (rv_add (a := s19.2.2) (b := 1) rfl rfl) (sa (I (w64 (s19.2.2 + 1))) rfl (w_end (q_then ?_))))))
        obtain rfl := sj h
        exact ⟨_, rfl, _, σ72, fr_join ⟨rfl, rfl, rfl, rfl, rfl, rfl, trivial⟩, rfl, H.sel' [0] rfl rfl⟩
      ·replace h := bif_f hb21 h
       refine c_exit (q_then_x (q_then_x (q_blk_hit ?_)))
       obtain rfl := sj h
       obtain rfl := hres _ rfl
       exact ⟨rfl, _, σ20, fr_join ⟨rfl, rfl, rfl, rfl, rfl, trivial⟩, rfl, H.sel' [0] rfl rfl⟩
     ·clear hj
      have h := h'
      clear h' H
      rintro e a w ⟨rfl, ρ, σ73, rfl, rfl, H⟩
      refine q_blk (q_then (rg (sm (I s15.2.2) rfl (st (v := (I (w64 (s15.2.2 + 1)))) (rv_add (a := s15.2.2) (b := 1) rfl rfl) (sa (I (w64 (s15.2.2 + 1))) rfl (w_end (q_then ?_)))))))
      obtain rfl := sj h
      exact ⟨_, rfl, _, σ73, fr_join ⟨rfl, rfl, rfl, rfl, rfl, trivial⟩, rfl, H.sel' [0] rfl rfl⟩
    ·replace h := bif_f hb17 h
     refine c_exit (q_then_x (q_then_x (q_blk_hit ?_)))
     obtain rfl := sj h
     obtain rfl := hres _ rfl
     exact ⟨rfl, _, σ16, fr_join ⟨rfl, rfl, rfl, trivial⟩, rfl, H.sel' [0] rfl rfl⟩
   ·clear hj
    have h := h'
    clear h' H
    rintro e a w ⟨rfl, ρ, σ74, rfl, rfl, H⟩
    refine q_then (c_seq ?_)
    refine rgP (σ := σ74) 11 (by kernel_rfl) (by kernel_rfl) (by kernel_rfl) ?_
    refine sq (v := (Sl Am Ak Ao)) (rv_move rfl) (sq (v := (I o14.1)) (rv_move rfl) ?_)
    revert h; refine br fun x75 hx76 h => ?_
    obtain ⟨b78, o79, hi77, -⟩ := (H.ro 0 rfl).ix hx76
    refine sq (v := (pt b78 o79)) (rv_ix Tryz.underlying29 ti67 rfl rfl hi77) (sq (v := (pt b78 (o79 + 0))) (rv_fieldAddr (off := 0) (ft := 3) Tryz.underlying67 rfl ti3 rfl rfl) ?_)
    have hc80 := ((H.ro 0 rfl).at hx76 hi77).fst.int
    refine sq (v := (I x75.1)) (rv_load1 Tryz.underlying3 rfl rfl hc80) (sq (v := (Sl Am Ak Ao)) (rv_move rfl) (sq (v := (I o14.2)) (rv_move rfl) ?_))
    revert h; refine br fun x81 hx82 h => ?_
    obtain ⟨b84, o85, hi83, -⟩ := (H.ro 0 rfl).ix hx82
    refine sq (v := (pt b84 o85)) (rv_ix Tryz.underlying29 ti67 rfl rfl hi83) (sq (v := (pt b84 (o85 + 0))) (rv_fieldAddr (off := 0) (ft := 3) Tryz.underlying67 rfl ti3 rfl rfl) ?_)
    have hc86 := ((H.ro 0 rfl).at hx82 hi83).fst.int
    refine sq (v := (I x81.1)) (rv_load1 Tryz.underlying3 rfl rfl hc86) (sq (v := (I x75.1)) (rv_assign rfl) (sq_end ?_))
    intro σ87 hm88
    replace H := H.grow (hm88.mono fun _ h => h); clear hm88
    refine sa (I x81.1) rfl (sa (B true) rfl (w_end (q_then (c_ret ?_))))
    obtain rfl := sj h
    exact fin_ret (v := (.tuple #[(I x75.1), (I x81.1), (B true)])) (results_ok Tryz.results22 (res_tmp (v := (I x75.1)) rfl (res_tmp (v := (I x81.1)) rfl (res_tmp (v := (B true)) rfl res_nil))) rfl) ⟨rfl, rfl⟩ (H.sel' [] rfl rfl)

end Go.Vs
