/- The functions compute what their models say. -/
import Derived.Test.YtnkflplbeagljaaGreatKRerankNearestFromC3
set_option linter.unusedVariables false
set_option linter.unusedSimpArgs false
set_option maxRecDepth 20000
namespace Go.Vs
open Go Go.Proofs
attribute [local irreducible] Code.wp Code.wpIn wpList wpListIn wpQuiet Calls CallsIn

theorem c_spec_put {Ah : List (Int × (List Int) × Int)} {Cs : Int × (List Int) × Int} {Aj : Option Addr} {Ak : Nat} {Gl : Option Addr} {Gm : Nat} {r : (List (Int × (List Int) × Int))} (h : M.spec_put Ah Cs = some r) :
    Cal2 Tryz.prog 148 [(Sl Aj Ah Ak), (.agg #[(I Cs.1), (Sl Gl Cs.2.1 Gm), (I Cs.2.2)])] [Ch.ro 0 (Sl Aj Ah Ak) Ah, Ch.ro 0 (Sl Gl Cs.2.1 Gm) Cs.2.1] (fun n0 v L => ∃ (az1 : Option Addr), ∃ (cz2 : Nat), v = (Sl az1 r cz2) ∧ L = [Ch.own n0 n0 (Sl az1 r cz2) r]) := by
 refine cal2 (n := 59) Tryz.func148 rfl rfl rfl rfl ?_
 intro S0 σ0 n0 hn0 H
 unfold M.spec_put at h
 refine c_seq (rg (st_ex (ex_box (cs := [(I Cs.1), (Sl Gl Cs.2.1 Gm), (I Cs.2.2)]) H hn0 rfl rfl) wn ?_))
 rintro _ σ2 ⟨b1, rfl, H, -⟩
 refine sa (.slice none 0 0) rfl (w_end (q_then (c_seq (rg ?_))))
 refine st_ex (ex_buildSlice (el := n0) (xs := ([] : List (Int × (List Int) × Int))) (ps := []) (cs := []) H hn0 Tryz.underlying23 ti33 rfl rfl (by kernel_rfl) (.nil) rfl) wn ?_
 rintro _ σ4 ⟨b3, rfl, H, -⟩
 refine sa (Sl (some ⟨b3, 0, none⟩) ([] : List (Int × (List Int) × Int)) 0) rfl (w_end (q_then (c_seq (c_seq (rg (sa (I 0) rfl (w_end (q_then ?_))))))))
 obtain ⟨o5, hj, h'⟩ := bind_some h
 clear h
 refine c_cut (fun e a w => e = .normal ∧ ∃ (ρ : Nat → Value) (σ : St) (aj1 : Option Addr) (cj2 : Nat), a = fr 59 (updL ρ [(0, (Sl Aj Ah Ak)), (3, (pt b1 0)), (5, (Sl aj1 o5 cj2))]) ∧ w = σ.w ∧ Hp S0 σ0 σ [Ch.ro 0 (Sl Aj Ah Ak) Ah, Ch.ro 0 (Sl Gl Cs.2.1 Gm) Cs.2.1, Ch.bx n0 b1 0 [(I Cs.1), (Sl Gl Cs.2.1 Gm), (I Cs.2.2)] [] [], Ch.own n0 n0 (Sl aj1 o5 cj2) o5]) ?_ ?_
 ·clear h'
  rename _ = some o5 => h
  refine c_blk (wp_loopM _ h (fun s6 a w => ∃ (ρ : Nat → Value) (σ : St) (aj1 : Option Addr) (cj2 : Nat), a = fr 59 (updL ρ [(0, (Sl Aj Ah Ak)), (3, (pt b1 0)), (5, (Sl aj1 s6.1 cj2)), (6, (I s6.2))]) ∧ w = σ.w ∧ Hp S0 σ0 σ [Ch.ro 0 (Sl Aj Ah Ak) Ah, Ch.ro 0 (Sl Gl Cs.2.1 Gm) Cs.2.1, Ch.bx n0 b1 0 [(I Cs.1), (Sl Gl Cs.2.1 Gm), (I Cs.2.2)] [] [], Ch.own n0 n0 (Sl aj1 s6.1 cj2) s6.1]) ⟨_, σ4, (some ⟨b3, 0, none⟩), 0, fr_join ⟨rfl, rfl, rfl, rfl, trivial⟩, rfl, H.sel' [2, 3, 1, 0] rfl rfl⟩ ?_)
  clear h H
  rintro s6 a w o ⟨ρ, σ7, a8, c9, rfl, rfl, H⟩ h hres
  refine c_seq (c_seq (rg (sm (I s6.2) rfl (sm (Sl Aj Ah Ak) rfl (st (v := (I (Ah.length : Int))) (rv_len Tryz.underlying23 rfl) (st (v := (B (decide (s6.2 < (Ah.length : Int))))) (rv_lss (a := s6.2) (b := (Ah.length : Int)) rfl rfl) (w_end (q_then ?_))))))))
  refine cd_cond (decide (s6.2 < (Ah.length : Int))) rfl (fun hb10 => ?_) (fun hb10 => ?_)
  ·replace h := bif_t hb10 h
   refine c_skip (q_then (c_seq ?_))
   obtain ⟨o11, hj, h'⟩ := bind_some h
   clear h
   refine c_cut (fun e a w => e = .normal ∧ ∃ (ρ : Nat → Value) (σ : St) (aj1 : Option Addr) (cj2 : Nat), a = fr 59 (updL ρ [(0, (Sl Aj Ah Ak)), (3, (pt b1 0)), (5, (Sl aj1 o11 cj2)), (6, (I s6.2))]) ∧ w = σ.w ∧ Hp S0 σ0 σ [Ch.ro 0 (Sl Aj Ah Ak) Ah, Ch.ro 0 (Sl Gl Cs.2.1 Gm) Cs.2.1, Ch.bx n0 b1 0 [(I Cs.1), (Sl Gl Cs.2.1 Gm), (I Cs.2.2)] [] [], Ch.own n0 n0 (Sl aj1 o11 cj2) o11]) ?_ ?_
   ·clear h'
    rename _ = some o11 => h
    refine c_blk (c_seq ?_)
    refine rgP (σ := σ7) 7 (by kernel_rfl) (by kernel_rfl) (by kernel_rfl) ?_
    refine sq (v := (Sl Aj Ah Ak)) (rv_move rfl) (sq (v := (I s6.2)) (rv_move rfl) ?_)
    revert h; refine br fun x12 hx13 h => ?_
    obtain ⟨b15, o16, hi14, -⟩ := (H.ro 0 rfl).ix hx13
    refine sq (v := (pt b15 o16)) (rv_ix Tryz.underlying23 ti33 rfl rfl hi14) (sq (v := (pt b15 (o16 + 0))) (rv_fieldAddr (off := 0) (ft := 3) Tryz.underlying33 rfl ti3 rfl rfl) ?_)
    have hc17 := ((H.ro 0 rfl).at hx13 hi14).fst.int
    refine sq (v := (I x12.1)) (rv_load1 Tryz.underlying3 rfl rfl hc17) (sq (v := (pt b1 0)) (rv_fieldAddr (off := 0) (ft := 3) Tryz.underlying33 rfl ti3 rfl rfl) ?_)
    have hc18 := H.cell (u := (I Cs.1)) (o' := 0) 2 0 rfl rfl rfl
    refine sq (v := (I Cs.1)) (rv_load1 Tryz.underlying3 rfl rfl hc18) (sq_end ?_)
    intro σ19 hm20
    replace H := H.grow (hm20.mono fun _ h => h); clear hm20
    refine st (v := (B (decide (x12.1 < Cs.1)))) (rv_lss (a := x12.1) (b := Cs.1) rfl rfl) (w_end (q_then ?_))
    refine cd_cond (decide (x12.1 < Cs.1)) rfl (fun hb21 => ?_) (fun hb21 => ?_)
    ·replace h := bif_t hb21 h
     refine rg (sm (Sl a8 s6.1 c9) rfl (sm (Sl Aj Ah Ak) rfl (sm (I s6.2) rfl ?_)))
     revert h; refine br fun x22 hx23 h => ?_
     obtain ⟨b25, o26, hi24, -⟩ := (H.ro 0 rfl).ix hx23
     refine st (v := (pt b25 o26)) (rv_ix Tryz.underlying23 ti33 rfl rfl hi24) ?_
     obtain ⟨_, ⟨_, _, rfl, rfl, ⟨_, _, rfl, ⟨_, rfl, hR31⟩, rfl⟩⟩, hl27, hc28⟩ := ((H.ro 0 rfl).at hx23 hi24).cells
     obtain ⟨a29, c30, rfl⟩ := hR31.isSl
     replace H := H.add (d := Ch.ro 0 (Sl a29 x22.2.1 c30) x22.2.1) hR31 (fun _ h => h)
     clear hR31
     refine st (v := (.agg #[(I x22.1), (Sl a29 x22.2.1 c30), (I x22.2.2)])) (rv_load Tryz.underlying33 rfl ti33 rfl hl27 hc28) ?_
     revert h; refine br fun r32 hx33 h => ?_
     have hc34 := c_spec_copyItem (Cj := a29) (Ck := c30) hx33
     refine st_call (cx_call hc34 (ent_f hc34.fn rfl) hn0 (H.sel' [0, 0, 1, 2, 3, 4] rfl rfl : Hp S0 σ0 _ ([_] ++ _))) wn ?_
     rintro _ σ37 ⟨_, ⟨a35, c36, rfl, rfl⟩, H, -⟩
     replace H : Hp _ _ _ [_, _, _, _, _, _] := H
     obtain ⟨σ38, hw39, H, -⟩ := H.pub 0 rfl (Nat.le_refl _)
     rw [← hw39]; clear hw39
     refine st_ex (ex_buildSlice (el := n0) (xs := ([(r32.1, r32.2.1, r32.2.2)] : List (Int × (List Int) × Int))) (ps := [(0, (.agg #[(I r32.1), (Sl a35 r32.2.1 c36), (I r32.2.2)]))]) (cs := [(I r32.1), (Sl a35 r32.2.1 c36), (I r32.2.2)]) H hn0 Tryz.underlying23 ti33 rfl rfl (by kernel_rfl) (.cons (c := [(I r32.1), (Sl a35 r32.2.1 c36), (I r32.2.2)]) ⟨[(I r32.1)], [(Sl a35 r32.2.1 c36), (I r32.2.2)], rfl, rfl, ⟨[(Sl a35 r32.2.1 c36)], [(I r32.2.2)], rfl, ⟨_, rfl, (H.ro 0 rfl)⟩, rfl⟩⟩ (.nil)) rfl) wn ?_
     rintro _ σ41 ⟨b40, rfl, H, -⟩
     revert h; refine br fun xs42 hx43 h => ?_
     refine st_ex (ex_append H (i := 6) rfl Tryz.underlying23 Tryz.underlying23 ti33 rfl rfl (by decide) (H.own 0 rfl).rd hx43 hn0 rfl rfl) wn ?_
     rintro _ σ46 ⟨a44, c45, rfl, H, -⟩
     refine sa (Sl a44 xs42 c45) rfl (w_end (q_blk ?_))
     obtain rfl := sj h
     exact ⟨rfl, _, σ46, a44, c45, fr_join ⟨rfl, rfl, rfl, rfl, trivial⟩, rfl, H.sel' [4, 5, 6, 0] rfl rfl⟩
    ·replace h := bif_f hb21 h
     refine c_skip (q_blk ?_)
     obtain rfl := sj h
     exact ⟨rfl, _, σ19, a8, c9, fr_join ⟨rfl, rfl, rfl, rfl, trivial⟩, rfl, H.sel' [0, 1, 2, 3] rfl rfl⟩
   ·clear hj
    have h := h'
    clear h' H
    rintro e a w ⟨rfl, ρ, σ47, a48, c49, rfl, rfl, H⟩
    refine q_then (rg (sm (I s6.2) rfl (st (v := (I (w64 (s6.2 + 1)))) (rv_add (a := s6.2) (b := 1) rfl rfl) (sa (I (w64 (s6.2 + 1))) rfl (w_end (q_then ?_))))))
    obtain rfl := sj h
    exact ⟨_, rfl, _, σ47, a48, c49, fr_join ⟨rfl, rfl, rfl, rfl, trivial⟩, rfl, H.sel' [0, 1, 2, 3] rfl rfl⟩
  ·replace h := bif_f hb10 h
   refine c_exit (q_then_x (q_then_x (q_blk_hit ?_)))
   obtain rfl := sj h
   obtain rfl := hres _ rfl
   exact ⟨rfl, _, σ7, a8, c9, fr_join ⟨rfl, rfl, rfl, trivial⟩, rfl, H.sel' [0, 1, 2, 3] rfl rfl⟩
 ·clear hj
  have h := h'
  clear h' H
  rintro e a w ⟨rfl, ρ, σ50, a51, c52, rfl, rfl, H⟩
  refine q_then (c_seq (rg (sm (Sl a51 o5 c52) rfl ?_)))
  have hc53 := H.cells 2 rfl
  refine st (v := (.agg #[(I Cs.1), (Sl Gl Cs.2.1 Gm), (I Cs.2.2)])) (rv_load (cs := [(I Cs.1), (Sl Gl Cs.2.1 Gm), (I Cs.2.2)]) Tryz.underlying33 rfl ti33 rfl rfl hc53) ?_
  revert h; refine br fun r54 hx55 h => ?_
  have hc56 := c_spec_copyItem (Cj := Gl) (Ck := Gm) hx55
  refine st_call (cx_call hc56 (ent_f hc56.fn rfl) hn0 (H.sel' [1, 0, 1, 2, 3] rfl rfl : Hp S0 σ0 _ ([_] ++ _))) wn ?_
  rintro _ σ59 ⟨_, ⟨a57, c58, rfl, rfl⟩, H, -⟩
  replace H : Hp _ _ _ [_, _, _, _, _] := H
  obtain ⟨σ60, hw61, H, -⟩ := H.pub 0 rfl (Nat.le_refl _)
  rw [← hw61]; clear hw61
  refine st_ex (ex_buildSlice (el := n0) (xs := ([(r54.1, r54.2.1, r54.2.2)] : List (Int × (List Int) × Int))) (ps := [(0, (.agg #[(I r54.1), (Sl a57 r54.2.1 c58), (I r54.2.2)]))]) (cs := [(I r54.1), (Sl a57 r54.2.1 c58), (I r54.2.2)]) H hn0 Tryz.underlying23 ti33 rfl rfl (by kernel_rfl) (.cons (c := [(I r54.1), (Sl a57 r54.2.1 c58), (I r54.2.2)]) ⟨[(I r54.1)], [(Sl a57 r54.2.1 c58), (I r54.2.2)], rfl, rfl, ⟨[(Sl a57 r54.2.1 c58)], [(I r54.2.2)], rfl, ⟨_, rfl, (H.ro 0 rfl)⟩, rfl⟩⟩ (.nil)) rfl) wn ?_
  rintro _ σ63 ⟨b62, rfl, H, -⟩
  revert h; refine br fun xs64 hx65 h => ?_
  refine st_ex (ex_append H (i := 5) rfl Tryz.underlying23 Tryz.underlying23 ti33 rfl rfl (by decide) (H.own 0 rfl).rd hx65 hn0 rfl rfl) wn ?_
  rintro _ σ68 ⟨a66, c67, rfl, H, -⟩
  refine sa (Sl a66 xs64 c67) rfl (w_end (q_then (c_seq (c_seq (rg (sa (I 0) rfl (w_end (q_then ?_))))))))
  obtain ⟨o69, hj, h'⟩ := bind_some h
  clear h
  refine c_cut (fun e a w => e = .normal ∧ ∃ (ρ : Nat → Value) (σ : St) (aj1 : Option Addr) (cj2 : Nat), a = fr 59 (updL ρ [(5, (Sl aj1 o69 cj2))]) ∧ w = σ.w ∧ Hp S0 σ0 σ [Ch.own n0 n0 (Sl aj1 o69 cj2) o69]) ?_ ?_
  ·clear h'
   rename _ = some o69 => h
   refine c_blk (wp_loopM _ h (fun s70 a w => ∃ (ρ : Nat → Value) (σ : St) (aj1 : Option Addr) (cj2 : Nat), a = fr 59 (updL ρ [(0, (Sl Aj Ah Ak)), (3, (pt b1 0)), (5, (Sl aj1 s70.1 cj2)), (7, (I s70.2))]) ∧ w = σ.w ∧ Hp S0 σ0 σ [Ch.ro 0 (Sl Aj Ah Ak) Ah, Ch.ro 0 (Sl Gl Cs.2.1 Gm) Cs.2.1, Ch.bx n0 b1 0 [(I Cs.1), (Sl Gl Cs.2.1 Gm), (I Cs.2.2)] [] [], Ch.own n0 n0 (Sl aj1 s70.1 cj2) s70.1]) ⟨_, σ68, a66, c67, fr_join ⟨rfl, rfl, rfl, rfl, trivial⟩, rfl, H.sel' [3, 4, 5, 0] rfl rfl⟩ ?_)
   clear h H
   rintro s70 a w o ⟨ρ, σ71, a72, c73, rfl, rfl, H⟩ h hres
   refine c_seq (c_seq (rg (sm (I s70.2) rfl (sm (Sl Aj Ah Ak) rfl (st (v := (I (Ah.length : Int))) (rv_len Tryz.underlying23 rfl) (st (v := (B (decide (s70.2 < (Ah.length : Int))))) (rv_lss (a := s70.2) (b := (Ah.length : Int)) rfl rfl) (w_end (q_then ?_))))))))
   refine cd_cond (decide (s70.2 < (Ah.length : Int))) rfl (fun hb74 => ?_) (fun hb74 => ?_)
   ·replace h := bif_t hb74 h
    refine c_skip (q_then (c_seq ?_))
    obtain ⟨o75, hj, h'⟩ := bind_some h
    clear h
    refine c_cut (fun e a w => e = .normal ∧ ∃ (ρ : Nat → Value) (σ : St) (aj1 : Option Addr) (cj2 : Nat), a = fr 59 (updL ρ [(0, (Sl Aj Ah Ak)), (3, (pt b1 0)), (5, (Sl aj1 o75 cj2)), (7, (I s70.2))]) ∧ w = σ.w ∧ Hp S0 σ0 σ [Ch.ro 0 (Sl Aj Ah Ak) Ah, Ch.ro 0 (Sl Gl Cs.2.1 Gm) Cs.2.1, Ch.bx n0 b1 0 [(I Cs.1), (Sl Gl Cs.2.1 Gm), (I Cs.2.2)] [] [], Ch.own n0 n0 (Sl aj1 o75 cj2) o75]) ?_ ?_
    ·clear h'
     rename _ = some o75 => h
     refine c_blk (c_seq ?_)
     refine rgP (σ := σ71) 7 (by kernel_rfl) (by kernel_rfl) (by kernel_rfl) ?_
     refine sq (v := (Sl Aj Ah Ak)) (rv_move rfl) (sq (v := (I s70.2)) (rv_move rfl) ?_)
     revert h; refine br fun x76 hx77 h => ?_
     obtain ⟨b79, o80, hi78, -⟩ := (H.ro 0 rfl).ix hx77
     refine sq (v := (pt b79 o80)) (rv_ix Tryz.underlying23 ti33 rfl rfl hi78) (sq (v := (pt b79 (o80 + 0))) (rv_fieldAddr (off := 0) (ft := 3) Tryz.underlying33 rfl ti3 rfl rfl) ?_)
     have hc81 := ((H.ro 0 rfl).at hx77 hi78).fst.int
     refine sq (v := (I x76.1)) (rv_load1 Tryz.underlying3 rfl rfl hc81) (sq (v := (pt b1 0)) (rv_fieldAddr (off := 0) (ft := 3) Tryz.underlying33 rfl ti3 rfl rfl) ?_)
     have hc82 := H.cell (u := (I Cs.1)) (o' := 0) 2 0 rfl rfl rfl
     refine sq (v := (I Cs.1)) (rv_load1 Tryz.underlying3 rfl rfl hc82) (sq_end ?_)
     intro σ83 hm84
     replace H := H.grow (hm84.mono fun _ h => h); clear hm84
     refine st (v := (B (decide (Cs.1 < x76.1)))) (rv_gtr (a := x76.1) (b := Cs.1) rfl rfl) (w_end (q_then ?_))
     refine cd_cond (decide (Cs.1 < x76.1)) rfl (fun hb85 => ?_) (fun hb85 => ?_)
     ·replace h := bif_t hb85 h
      refine rg (sm (Sl a72 s70.1 c73) rfl (sm (Sl Aj Ah Ak) rfl (sm (I s70.2) rfl ?_)))
      revert h; refine br fun x86 hx87 h => ?_
      obtain ⟨b89, o90, hi88, -⟩ := (H.ro 0 rfl).ix hx87
      refine st (v := (pt b89 o90)) (rv_ix Tryz.underlying23 ti33 rfl rfl hi88) ?_
      obtain ⟨_, ⟨_, _, rfl, rfl, ⟨_, _, rfl, ⟨_, rfl, hR95⟩, rfl⟩⟩, hl91, hc92⟩ := ((H.ro 0 rfl).at hx87 hi88).cells
      obtain ⟨a93, c94, rfl⟩ := hR95.isSl
      replace H := H.add (d := Ch.ro 0 (Sl a93 x86.2.1 c94) x86.2.1) hR95 (fun _ h => h)
      clear hR95
      refine st (v := (.agg #[(I x86.1), (Sl a93 x86.2.1 c94), (I x86.2.2)])) (rv_load Tryz.underlying33 rfl ti33 rfl hl91 hc92) ?_
      revert h; refine br fun r96 hx97 h => ?_
      have hc98 := c_spec_copyItem (Cj := a93) (Ck := c94) hx97
      refine st_call (cx_call hc98 (ent_f hc98.fn rfl) hn0 (H.sel' [0, 0, 1, 2, 3, 4] rfl rfl : Hp S0 σ0 _ ([_] ++ _))) wn ?_
      rintro _ σ101 ⟨_, ⟨a99, c100, rfl, rfl⟩, H, -⟩
      replace H : Hp _ _ _ [_, _, _, _, _, _] := H
      obtain ⟨σ102, hw103, H, -⟩ := H.pub 0 rfl (Nat.le_refl _)
      rw [← hw103]; clear hw103
      refine st_ex (ex_buildSlice (el := n0) (xs := ([(r96.1, r96.2.1, r96.2.2)] : List (Int × (List Int) × Int))) (ps := [(0, (.agg #[(I r96.1), (Sl a99 r96.2.1 c100), (I r96.2.2)]))]) (cs := [(I r96.1), (Sl a99 r96.2.1 c100), (I r96.2.2)]) H hn0 Tryz.underlying23 ti33 rfl rfl (by kernel_rfl) (.cons (c := [(I r96.1), (Sl a99 r96.2.1 c100), (I r96.2.2)]) ⟨[(I r96.1)], [(Sl a99 r96.2.1 c100), (I r96.2.2)], rfl, rfl, ⟨[(Sl a99 r96.2.1 c100)], [(I r96.2.2)], rfl, ⟨_, rfl, (H.ro 0 rfl)⟩, rfl⟩⟩ (.nil)) rfl) wn ?_
      rintro _ σ105 ⟨b104, rfl, H, -⟩
      revert h; refine br fun xs106 hx107 h => ?_
      refine st_ex (ex_append H (i := 6) rfl Tryz.underlying23 Tryz.underlying23 ti33 rfl rfl (by decide) (H.own 0 rfl).rd hx107 hn0 rfl rfl) wn ?_
      rintro _ σ110 ⟨a108, c109, rfl, H, -⟩
      refine sa (Sl a108 xs106 c109) rfl (w_end (q_blk ?_))
      obtain rfl := sj h
      exact ⟨rfl, _, σ110, a108, c109, fr_join ⟨rfl, rfl, rfl, rfl, trivial⟩, rfl, H.sel' [4, 5, 6, 0] rfl rfl⟩
     ·replace h := bif_f hb85 h
      refine c_skip (q_blk ?_)
      obtain rfl := sj h
      exact ⟨rfl, _, σ83, a72, c73, fr_join ⟨rfl, rfl, rfl, rfl, trivial⟩, rfl, H.sel' [0, 1, 2, 3] rfl rfl⟩
    ·clear hj
     have h := h'
     clear h' H
     rintro e a w ⟨rfl, ρ, σ111, a112, c113, rfl, rfl, H⟩
     refine q_then (rg (sm (I s70.2) rfl (st (v := (I (w64 (s70.2 + 1)))) (rv_add (a := s70.2) (b := 1) rfl rfl) (sa (I (w64 (s70.2 + 1))) rfl (w_end (q_then ?_))))))
     obtain rfl := sj h
     exact ⟨_, rfl, _, σ111, a112, c113, fr_join ⟨rfl, rfl, rfl, rfl, trivial⟩, rfl, H.sel' [0, 1, 2, 3] rfl rfl⟩
   ·replace h := bif_f hb74 h
    refine c_exit (q_then_x (q_then_x (q_blk_hit ?_)))
    obtain rfl := sj h
    obtain rfl := hres _ rfl
    exact ⟨rfl, _, σ71, a72, c73, fr_join ⟨rfl, trivial⟩, rfl, H.sel' [3] rfl rfl⟩
  ·clear hj
   have h := h'
   clear h' H
   rintro e a w ⟨rfl, ρ, σ114, a115, c116, rfl, rfl, H⟩
   refine q_then (c_seq (rg (sm (Sl a115 o69 c116) rfl (sa (Sl a115 o69 c116) rfl (w_end (q_then (c_ret ?_)))))))
   obtain rfl := sj h
   exact fin_ret (v := (Sl a115 o69 c116)) (results_ok Tryz.results148 (res_tmp (v := (Sl a115 o69 c116)) rfl res_nil) rfl) ⟨a115, c116, rfl, rfl⟩ (H.sel' [0] rfl rfl)

theorem c_spec_PutItem {Ah : List (Int × (List Int) × Int)} {Cs : Int × (List Int) × Int} {Aj : Option Addr} {Ak : Nat} {Gl : Option Addr} {Gm : Nat} {r : (List (Int × (List Int) × Int)) × Bool} (h : M.spec_PutItem Ah Cs = some r) :
    Cal2 Tryz.prog 132 [(Sl Aj Ah Ak), (.agg #[(I Cs.1), (Sl Gl Cs.2.1 Gm), (I Cs.2.2)])] [Ch.ro 0 (Sl Aj Ah Ak) Ah, Ch.ro 0 (Sl Gl Cs.2.1 Gm) Cs.2.1] (fun n0 v L => ∃ (az1 : Option Addr), ∃ (cz2 : Nat), v = (.tuple #[(Sl az1 r.1 cz2), (B r.2)]) ∧ L = [Ch.own n0 n0 (Sl az1 r.1 cz2) r.1]) := by
 refine cal2 (n := 22) Tryz.func132 rfl rfl rfl rfl ?_
 intro S0 σ0 n0 hn0 H
 unfold M.spec_PutItem at h
 refine c_seq (rg (st_ex (ex_box (cs := [(I Cs.1), (Sl Gl Cs.2.1 Gm), (I Cs.2.2)]) H hn0 rfl rfl) wn ?_))
 rintro _ σ2 ⟨b1, rfl, H, -⟩
 refine sa (.slice none 0 0) rfl (sa (B false) rfl (w_end (q_then (c_seq (c_seq ?_)))))
 obtain ⟨o3, hj, h'⟩ := bind_some h
 clear h
 refine c_cut (fun e a w => e = .normal ∧ ∃ (ρ : Nat → Value) (σ : St), a = fr 22 (updL ρ [(0, (Sl Aj Ah Ak)), (3, (pt b1 0)), (14, (B o3))]) ∧ w = σ.w ∧ Hp S0 σ0 σ [Ch.ro 0 (Sl Aj Ah Ak) Ah, Ch.ro 0 (Sl Gl Cs.2.1 Gm) Cs.2.1, Ch.bx n0 b1 0 [(I Cs.1), (Sl Gl Cs.2.1 Gm), (I Cs.2.2)] [] []]) ?_ ?_
 ·clear h'
  rename _ = some o3 => h
  refine rg (sm (Sl Aj Ah Ak) rfl ?_)
  revert h; refine br fun r4 hx5 h => ?_
  have hc6 := c_spec_validStore (Aj := Aj) (Ak := Ak) hx5
  refine st_call (cx_call hc6 (ent_f hc6.fn rfl) hn0 (H.sel' [1, 0, 1, 2] rfl rfl : Hp S0 σ0 _ ([_] ++ _))) wn ?_
  rintro _ σ7 ⟨_, ⟨rfl, rfl⟩, H, -⟩
  replace H : Hp _ _ _ [_, _, _] := H
  refine st (v := (B (!r4))) (rv_not rfl) (sm (B (!r4)) rfl ?_)
  rcases Bool.eq_false_or_eq_true (!r4) with hb8 | hb8
  ·replace h := bif_t hb8 h
   refine st_skip (congrArg some hb8) (st_skip (congrArg some hb8) (st_skip (congrArg some hb8) (st (v := (B true)) (rv_pick_t (congrArg B hb8) rfl) (w_end ?_))))
   obtain rfl := sj h
   exact ⟨rfl, _, σ7, fr_join ⟨rfl, rfl, rfl, trivial⟩, rfl, H.sel' [1, 2, 0] rfl rfl⟩
  ·replace h := bif_f hb8 h
   have hc9 := H.cells 0 rfl
   refine st_g (v := (.agg #[(I Cs.1), (Sl Gl Cs.2.1 Gm), (I Cs.2.2)])) (congrArg some hb8) (rv_load (cs := [(I Cs.1), (Sl Gl Cs.2.1 Gm), (I Cs.2.2)]) Tryz.underlying33 rfl ti33 rfl rfl hc9) ?_
   revert h; refine br fun r10 hx11 h => ?_
   have hc12 := c_spec_validItem (Cj := Gl) (Ck := Gm) hx11
   refine st_call (cx_call hc12 (ent_f hc12.fn rfl) hn0 (H.sel' [2, 0, 1, 2] rfl rfl : Hp S0 σ0 _ ([_] ++ _))) (wanted_yes rfl (by exact (congrArg some hb8))) ?_
   rintro _ σ13 ⟨_, ⟨rfl, rfl⟩, H, -⟩
   replace H : Hp _ _ _ [_, _, _] := H
   refine st_g (v := (B (!r10))) (congrArg some hb8) (rv_not rfl) (st (v := (B (!r10))) (rv_pick_f (congrArg B hb8) rfl) (w_end ?_))
   obtain rfl := sj h
   exact ⟨rfl, _, σ13, fr_join ⟨rfl, rfl, rfl, trivial⟩, rfl, H.sel' [1, 2, 0] rfl rfl⟩
 ·clear hj
  have h := h'
  clear h' H
  rintro e a w ⟨rfl, ρ, σ14, rfl, rfl, H⟩
  refine q_then ?_
  refine cd_cond o3 rfl (fun hb15 => ?_) (fun hb15 => ?_)
  ·replace h := bif_t hb15 h
   refine c_seq (rg (sa (.slice none 0 0) rfl (sa (B false) rfl (w_end (q_then (c_ret (q_then_r ?_)))))))
   replace H := H.nilOwn (Int × (List Int) × Int) n0 n0
   obtain rfl := sj h
   exact fin_ret (v := (.tuple #[(.slice none 0 0), (B false)])) (results_ok Tryz.results132 (res_tmp (v := (.slice none 0 0)) rfl (res_tmp (v := (B false)) rfl res_nil)) rfl) ⟨none, 0, rfl, rfl⟩ (H.sel' [0] rfl rfl)
  ·replace h := bif_f hb15 h
   refine c_skip (q_then (c_seq (rg (sm (Sl Aj Ah Ak) rfl ?_))))
   have hc16 := H.cells 2 rfl
   refine st (v := (.agg #[(I Cs.1), (Sl Gl Cs.2.1 Gm), (I Cs.2.2)])) (rv_load (cs := [(I Cs.1), (Sl Gl Cs.2.1 Gm), (I Cs.2.2)]) Tryz.underlying33 rfl ti33 rfl rfl hc16) ?_
   revert h; refine br fun r17 hx18 h => ?_
   have hc19 := c_spec_put (Aj := Aj) (Ak := Ak) (Gl := Gl) (Gm := Gm) hx18
   refine st_call (cx_call hc19 (ent_f hc19.fn rfl) hn0 (H.sel' [0, 1, 0, 1, 2] rfl rfl : Hp S0 σ0 _ ([_, _] ++ _))) wn ?_
   rintro _ σ22 ⟨_, ⟨a20, c21, rfl, rfl⟩, H, -⟩
   replace H : Hp _ _ _ [_, _, _, _] := H
   refine sa (Sl a20 r17 c21) rfl (w_end (q_then (c_seq (c_seq (rg (sm (Sl a20 r17 c21) rfl ?_))))))
   revert h; refine br fun r23 hx24 h => ?_
   have hc25 := c_spec_validStore (Aj := a20) (Ak := c21) hx24
   have hle := Nat.le_trans hn0 H.size
   refine st_call (cx_lend (Loan.lend Loan.nil) hc25 (ent_f hc25.fn rfl) (show Hp S0 σ0 _ ([Ch.own n0 n0 (Sl a20 r17 c21) r17] ++ ([] ++ [Ch.ro 0 (Sl Aj Ah Ak) Ah, Ch.ro 0 (Sl Gl Cs.2.1 Gm) Cs.2.1, Ch.bx n0 b1 0 [(I Cs.1), (Sl Gl Cs.2.1 Gm), (I Cs.2.2)] [] []])) from (H.sel' [0, 1, 2, 3] rfl rfl)) (by rintro _ _ _ ⟨rfl, rfl⟩; exact trivial)) wn ?_
   rintro _ σ26 ⟨_, ⟨rfl, rfl⟩, H, -, -⟩
   replace H : Hp _ _ _ [_, _, _, _] := H
   clear hle
   replace H : Hp _ _ _ [_, _, _, _] := H
   refine st (v := (B (!r23))) (rv_not rfl) (w_end (q_then ?_))
   refine cd_cond (!r23) rfl (fun hb27 => ?_) (fun hb27 => ?_)
   ·replace h := bif_t hb27 h
    refine c_seq (rg (sa (.slice none 0 0) rfl (sa (B false) rfl (w_end (q_then (c_ret (q_then_r ?_)))))))
    replace H := H.nilOwn (Int × (List Int) × Int) n0 n0
    obtain rfl := sj h
    exact fin_ret (v := (.tuple #[(.slice none 0 0), (B false)])) (results_ok Tryz.results132 (res_tmp (v := (.slice none 0 0)) rfl (res_tmp (v := (B false)) rfl res_nil)) rfl) ⟨none, 0, rfl, rfl⟩ (H.sel' [0] rfl rfl)
   ·replace h := bif_f hb27 h
    refine c_skip (q_then (c_seq (rg (sm (Sl a20 r17 c21) rfl (sa (Sl a20 r17 c21) rfl (sa (B true) rfl (w_end (q_then (c_ret ?_)))))))))
    obtain rfl := sj h
    exact fin_ret (v := (.tuple #[(Sl a20 r17 c21), (B true)])) (results_ok Tryz.results132 (res_tmp (v := (Sl a20 r17 c21)) rfl (res_tmp (v := (B true)) rfl res_nil)) rfl) ⟨a20, c21, rfl, rfl⟩ (H.sel' [0] rfl rfl)

theorem c_spec_someItem {Ds : (List UInt8) × Int} {Gh : Option Addr} {Gi : Nat} {Dt Du Dv : Nat} {Dw Dx : List Value} {r : (Int × (List Int) × Int) × ((List UInt8) × Int)} (h : M.spec_someItem Ds = some r) :
    Cal2 Tryz.prog 133 [(pt Du Dv)] [Ch.bx Dt Du Dv [(Sl Gh Ds.1 Gi), (I Ds.2)] Dw Dx, Ch.ro 0 (Sl Gh Ds.1 Gi) Ds.1] (fun n0 v L => ∃ (az1 : Option Addr), ∃ (cz2 : Nat), ∃ (az3 : Option Addr), ∃ (cz4 : Nat), v = (.agg #[(I r.1.1), (Sl az1 r.1.2.1 cz2), (I r.1.2.2)]) ∧ L = [Ch.own n0 n0 (Sl az1 r.1.2.1 cz2) r.1.2.1, Ch.bx Dt Du Dv [(Sl az3 r.2.1 cz4), (I r.2.2)] Dw Dx, Ch.ro 0 (Sl az3 r.2.1 cz4) r.2.1]) := by
 refine cal2 (n := 11) Tryz.func133 rfl rfl rfl rfl ?_
 intro S0 σ0 n0 hn0 H
 unfold M.spec_someItem at h
 refine c_seq (rg (st_ex (ex_alloc (cs := [(I 0), (.slice none 0 0), (I 0)]) H hn0 ti33 rfl) wn ?_))
 rintro _ σ2 ⟨b1, rfl, H, -⟩
 refine w_end (q_then (c_seq (rg (sm (pt Du Dv) rfl ?_))))
 revert h; refine br fun r3 hx4 h => ?_
 have hc5 := c_spec_reader_pick (Dt := Dt) (Du := Du) (Dv := Dv) (Dw := Dw) (Dx := Dx) (Gh := Gh) (Gi := Gi) hx4
 refine st_call (cx_call hc5 (ent_f hc5.fn rfl) hn0 (H.sel' [1, 2, 0, 2] rfl rfl : Hp S0 σ0 _ ([_, _] ++ _))) wn ?_
 rintro _ σ8 ⟨_, ⟨a6, c7, rfl, rfl⟩, H, -⟩
 replace H : Hp _ _ _ [_, _, _, _] := H
 refine st (v := (I (w64 (1 + r3.1)))) (rv_add (a := 1) (b := r3.1) rfl rfl) (sm (pt Du Dv) rfl ?_)
 revert h; refine br fun r9 hx10 h => ?_
 have hc11 := c_spec_someVector (Dt := Dt) (Du := Du) (Dv := Dv) (Dw := Dw) (Dx := Dx) (Gh := a6) (Gi := c7) hx10
 refine st_call (cx_call hc11 (ent_f hc11.fn rfl) hn0 (H.sel' [0, 1, 1, 2, 3] rfl rfl : Hp S0 σ0 _ ([_, _] ++ _))) wn ?_
 rintro _ σ16 ⟨_, ⟨a12, c13, a14, c15, rfl, rfl⟩, H, -⟩
 replace H : Hp _ _ _ [_, _, _, _, _, _] := H
 refine sm (pt Du Dv) rfl ?_
 revert h; refine br fun r17 hx18 h => ?_
 have hc19 := c_spec_reader_pick (Dt := Dt) (Du := Du) (Dv := Dv) (Dw := Dw) (Dx := Dx) (Gh := a14) (Gi := c15) hx18
 refine st_call (cx_call hc19 (ent_f hc19.fn rfl) hn0 (H.sel' [1, 2, 0, 2, 3, 4, 5] rfl rfl : Hp S0 σ0 _ ([_, _] ++ _))) wn ?_
 rintro _ σ22 ⟨_, ⟨a20, c21, rfl, rfl⟩, H, -⟩
 replace H : Hp _ _ _ [_, _, _, _, _, _, _] := H
 refine st (v := (.agg #[(I (w64 (1 + r3.1))), (Sl a12 r9.1 c13), (I r17.1)])) (rv_build (ps := [(0, (I (w64 (1 + r3.1)))), (1, (Sl a12 r9.1 c13)), (2, (I r17.1))]) Tryz.underlying33 ti33 (bp33 Tryz.underlying33) rfl (by kernel_rfl)) ?_
 refine st_exS (ex_store_box (k := 0) (cs := [(I 0), (.slice none 0 0), (I 0)]) (vs := [(I (w64 (1 + r3.1))), (Sl a12 r9.1 c13), (I r17.1)]) (cs' := [(I (w64 (1 + r3.1))), (Sl a12 r9.1 c13), (I r17.1)]) H (i := 5) rfl ti33 rfl rfl rfl rfl rfl (Nat.le_of_ble_eq_true rfl) (by simp [plain]) rfl) wn ?_
 rintro σ23 ⟨H, -⟩
 refine w_end (q_then (c_ret ?_))
 obtain rfl := sj h
 exact fin_ret (v := (.agg #[(I (w64 (1 + r3.1))), (Sl a12 r9.1 c13), (I r17.1)])) (results_ok Tryz.results133 (res_cell rfl (run_cellRes (cs := [(I (w64 (1 + r3.1))), (Sl a12 r9.1 c13), (I r17.1)]) Tryz.underlying33 rfl ti33 rfl (H.cells 0 rfl)) res_nil) rfl) ⟨a12, c13, a20, c21, rfl, rfl⟩ (H.sel' [3, 1, 2] rfl rfl)

theorem c_spec_someStore {Ds : (List UInt8) × Int} {Gh : Option Addr} {Gi : Nat} {Dt Du Dv : Nat} {Dw Dx : List Value} {r : (List (Int × (List Int) × Int)) × ((List UInt8) × Int)} (h : M.spec_someStore Ds = some r) :
    Cal2 Tryz.prog 102 [(pt Du Dv)] [Ch.bx Dt Du Dv [(Sl Gh Ds.1 Gi), (I Ds.2)] Dw Dx, Ch.ro 0 (Sl Gh Ds.1 Gi) Ds.1] (fun n0 v L => ∃ (az1 : Option Addr), ∃ (cz2 : Nat), ∃ (az3 : Option Addr), ∃ (cz4 : Nat), v = (Sl az1 r.1 cz2) ∧ L = [Ch.own n0 n0 (Sl az1 r.1 cz2) r.1, Ch.bx Dt Du Dv [(Sl az3 r.2.1 cz4), (I r.2.2)] Dw Dx, Ch.ro 0 (Sl az3 r.2.1 cz4) r.2.1]) := by
 refine cal2 (n := 25) Tryz.func102 rfl rfl rfl rfl ?_
 intro S0 σ0 n0 hn0 H
 unfold M.spec_someStore at h
 refine c_seq (rg (sa (.slice none 0 0) rfl (w_end (q_then (c_seq (rg ?_))))))
 refine st_ex (ex_buildSlice (el := n0) (xs := ([] : List (Int × (List Int) × Int))) (ps := []) (cs := []) H hn0 Tryz.underlying23 ti33 rfl rfl (by kernel_rfl) (.nil) rfl) wn ?_
 rintro _ σ2 ⟨b1, rfl, H, -⟩
 refine sa (Sl (some ⟨b1, 0, none⟩) ([] : List (Int × (List Int) × Int)) 0) rfl (w_end (q_then (c_seq (c_seq (rg (sm (pt Du Dv) rfl ?_))))))
 refine st_ex (ex_buildSlice (el := n0) (xs := ([4, 6, 8, 3, 1, 0, 20, 12] : List Int)) (ps := [(0, (I 4)), (1, (I 6)), (2, (I 8)), (3, (I 3)), (4, (I 1)), (5, (I 0)), (6, (I 20)), (7, (I 12))]) (cs := [(I 4), (I 6), (I 8), (I 3), (I 1), (I 0), (I 20), (I 12)]) H hn0 Tryz.underlying24 ti3 rfl rfl (by kernel_rfl) (.cons (c := [(I 4)]) rfl (.cons (c := [(I 6)]) rfl (.cons (c := [(I 8)]) rfl (.cons (c := [(I 3)]) rfl (.cons (c := [(I 1)]) rfl (.cons (c := [(I 0)]) rfl (.cons (c := [(I 20)]) rfl (.cons (c := [(I 12)]) rfl (.nil))))))))) rfl) wn ?_
 rintro _ σ4 ⟨b3, rfl, H, -⟩
 obtain ⟨σ5, hw6, H, -⟩ := H.pub 0 rfl (Nat.le_refl _)
 rw [← hw6]; clear hw6
 replace H := H.roLow 0 0 rfl (Nat.zero_le _)
 revert h; refine br fun r7 hx8 h => ?_
 have hc9 := c_spec_reader_one (Dt := Dt) (Du := Du) (Dv := Dv) (Dw := Dw) (Dx := Dx) (Gh := Gh) (Gi := Gi) (Gc := (some ⟨b3, 0, none⟩)) (Gd := 8) hx8
 refine st_call (cx_call hc9 (ent_f hc9.fn rfl) hn0 (H.sel' [3, 4, 0, 0, 1, 2, 4] rfl rfl : Hp S0 σ0 _ ([_, _, _] ++ _))) wn ?_
 rintro _ σ12 ⟨_, ⟨a10, c11, rfl, rfl⟩, H, -⟩
 replace H : Hp _ _ _ [_, _, _, _, _, _] := H
 refine sa (I r7.1) rfl (w_end (q_then ?_))
 obtain ⟨o13, hj, h'⟩ := bind_some h
 clear h
 refine c_cut (fun e a w => e = .normal ∧ ∃ (ρ : Nat → Value) (σ : St) (aj1 : Option Addr) (cj2 : Nat) (aj3 : Option Addr) (cj4 : Nat), a = fr 25 (updL ρ [(0, (pt Du Dv)), (3, (Sl aj3 o13.2 cj4))]) ∧ w = σ.w ∧ Hp S0 σ0 σ [Ch.bx Dt Du Dv [(Sl aj1 o13.1.1 cj2), (I o13.1.2)] Dw Dx, Ch.ro 0 (Sl aj1 o13.1.1 cj2) o13.1.1, Ch.own n0 n0 (Sl aj3 o13.2 cj4) o13.2]) ?_ ?_
 ·clear h'
  rename _ = some o13 => h
  refine c_blk (wp_loopM _ h (fun s14 a w => ∃ (ρ : Nat → Value) (σ : St) (aj1 : Option Addr) (cj2 : Nat) (aj3 : Option Addr) (cj4 : Nat), a = fr 25 (updL ρ [(0, (pt Du Dv)), (3, (Sl aj3 s14.2.1 cj4)), (4, (I s14.2.2))]) ∧ w = σ.w ∧ Hp S0 σ0 σ [Ch.bx Dt Du Dv [(Sl aj1 s14.1.1 cj2), (I s14.1.2)] Dw Dx, Ch.ro 0 (Sl aj1 s14.1.1 cj2) s14.1.1, Ch.own n0 n0 (Sl aj3 s14.2.1 cj4) s14.2.1]) ⟨_, σ12, a10, c11, (some ⟨b1, 0, none⟩), 0, fr_join ⟨rfl, rfl, rfl, trivial⟩, rfl, H.sel' [0, 1, 4] rfl rfl⟩ ?_)
  clear h H
  rintro s14 a w o ⟨ρ, σ15, a16, c17, a18, c19, rfl, rfl, H⟩ h hres
  refine c_seq (c_seq (rg (sm (I s14.2.2) rfl (st (v := (B (decide (0 < s14.2.2)))) (rv_gtr (a := s14.2.2) (b := 0) rfl rfl) (w_end (q_then ?_))))))
  refine cd_cond (decide (0 < s14.2.2)) rfl (fun hb20 => ?_) (fun hb20 => ?_)
  ·replace h := bif_t hb20 h
   refine c_skip (q_then (c_seq ?_))
   obtain ⟨o21, hj, h'⟩ := bind_some h
   clear h
   refine c_cut (fun e a w => e = .normal ∧ ∃ (ρ : Nat → Value) (σ : St) (aj1 : Option Addr) (cj2 : Nat) (aj3 : Option Addr) (cj4 : Nat), a = fr 25 (updL ρ [(0, (pt Du Dv)), (3, (Sl aj3 o21.2 cj4)), (4, (I s14.2.2))]) ∧ w = σ.w ∧ Hp S0 σ0 σ [Ch.bx Dt Du Dv [(Sl aj1 o21.1.1 cj2), (I o21.1.2)] Dw Dx, Ch.ro 0 (Sl aj1 o21.1.1 cj2) o21.1.1, Ch.own n0 n0 (Sl aj3 o21.2 cj4) o21.2]) ?_ ?_
   ·clear h'
    rename _ = some o21 => h
    refine c_blk (c_seq (rg (sm (Sl a18 s14.2.1 c19) rfl (sm (pt Du Dv) rfl ?_))))
    revert h; refine br fun r22 hx23 h => ?_
    have hc24 := c_spec_someItem (Dt := Dt) (Du := Du) (Dv := Dv) (Dw := Dw) (Dx := Dx) (Gh := a16) (Gi := c17) hx23
    refine st_call (cx_call hc24 (ent_f hc24.fn rfl) hn0 (H.sel' [0, 1, 1, 2] rfl rfl : Hp S0 σ0 _ ([_, _] ++ _))) wn ?_
    rintro _ σ29 ⟨_, ⟨a25, c26, a27, c28, rfl, rfl⟩, H, -⟩
    replace H : Hp _ _ _ [_, _, _, _, _] := H
    obtain ⟨σ30, hw31, H, -⟩ := H.pub 0 rfl (Nat.le_refl _)
    rw [← hw31]; clear hw31
    replace H := H.roLow 0 0 rfl (Nat.zero_le _)
    revert h; refine br fun r32 hx33 h => ?_
    have hc34 := c_spec_PutItem (Aj := a18) (Ak := c19) (Gl := a25) (Gm := c26) hx33
    have hle := Nat.le_trans hn0 H.size
    refine st_call (cx_lend (Loan.lend (Loan.same Loan.nil)) hc34 (ent_f hc34.fn rfl) (show Hp S0 σ0 _ ([Ch.own n0 n0 (Sl a18 s14.2.1 c19) s14.2.1] ++ ([Ch.ro 0 (Sl a25 r22.1.2.1 c26) r22.1.2.1] ++ [Ch.ro 0 (Sl a25 r22.1.2.1 c26) r22.1.2.1, Ch.ro n0 (Sl a25 r22.1.2.1 c26) r22.1.2.1, Ch.bx Dt Du Dv [(Sl a27 r22.2.1 c28), (I r22.2.2)] Dw Dx, Ch.ro 0 (Sl a27 r22.2.1 c28) r22.2.1, Ch.ro 0 (Sl a16 s14.1.1 c17) s14.1.1])) from (H.sel' [5, 0, 0, 1, 2, 3, 4] rfl rfl)) (by rintro _ _ _ ⟨_, _, rfl, rfl⟩; exact ⟨Ab.own (Nat.le_refl _), trivial⟩)) wn ?_
    rintro _ σ37 ⟨_, ⟨a35, c36, rfl, rfl⟩, H, -, -⟩
    replace H : Hp _ _ _ [_, _, _, _, _, _, _] := H
    replace H := H.ownLow 0 n0 n0 rfl hle hle
    clear hle
    replace H : Hp _ _ _ [_, _, _, _, _, _, _] := H
    refine sm (.tuple #[(Sl a35 r32.1 c36), (B r32.2)]) rfl (st (v := (Sl a35 r32.1 c36)) (rv_extract rfl rfl) (st (v := (B r32.2)) (rv_extract rfl rfl) (sa (Sl a35 r32.1 c36) rfl (sa (B r32.2) rfl (w_end (q_then (c_seq (rg (sm (B r32.2) rfl (w_end (q_then ?_)))))))))))
    refine cd_cond r32.2 rfl (fun hb38 => ?_) (fun hb38 => ?_)
    ·replace h := bif_t hb38 h
     refine rg (sm (Sl a35 r32.1 c36) rfl (sa (Sl a35 r32.1 c36) rfl (w_end (q_blk ?_))))
     obtain rfl := sj h
     exact ⟨rfl, _, σ37, a27, c28, a35, c36, fr_join ⟨rfl, rfl, rfl, trivial⟩, rfl, H.sel' [4, 5, 0] rfl rfl⟩
    ·replace h := bif_f hb38 h
     refine c_skip (q_blk ?_)
     obtain rfl := sj h
     exact ⟨rfl, _, σ37, a27, c28, a18, c19, fr_join ⟨rfl, rfl, rfl, trivial⟩, rfl, H.sel' [4, 5, 1] rfl rfl⟩
   ·clear hj
    have h := h'
    clear h' H
    rintro e a w ⟨rfl, ρ, σ39, a40, c41, a42, c43, rfl, rfl, H⟩
    refine q_then (rg (sm (I s14.2.2) rfl (st (v := (I (w64 (s14.2.2 - 1)))) (rv_sub (a := s14.2.2) (b := 1) rfl rfl) (sa (I (w64 (s14.2.2 - 1))) rfl (w_end (q_then ?_))))))
    obtain rfl := sj h
    exact ⟨_, rfl, _, σ39, a40, c41, a42, c43, fr_join ⟨rfl, rfl, rfl, trivial⟩, rfl, H.sel' [0, 1, 2] rfl rfl⟩
  ·replace h := bif_f hb20 h
   refine c_exit (q_then_x (q_then_x (q_blk_hit ?_)))
   obtain rfl := sj h
   obtain rfl := hres _ rfl
   exact ⟨rfl, _, σ15, a16, c17, a18, c19, fr_join ⟨rfl, rfl, trivial⟩, rfl, H.sel' [0, 1, 2] rfl rfl⟩
 ·clear hj
  have h := h'
  clear h' H
  rintro e a w ⟨rfl, ρ, σ44, a45, c46, a47, c48, rfl, rfl, H⟩
  refine q_then (c_seq (rg (sm (Sl a47 o13.2 c48) rfl (sa (Sl a47 o13.2 c48) rfl (w_end (q_then (c_ret ?_)))))))
  obtain rfl := sj h
  exact fin_ret (v := (Sl a47 o13.2 c48)) (results_ok Tryz.results102 (res_tmp (v := (Sl a47 o13.2 c48)) rfl res_nil) rfl) ⟨a47, c48, a45, c46, rfl, rfl⟩ (H.sel' [2, 0, 1] rfl rfl)

theorem c_spec_anyItem {Ds : (List UInt8) × Int} {Gh : Option Addr} {Gi : Nat} {Dt Du Dv : Nat} {Dw Dx : List Value} {r : (Int × (List Int) × Int) × ((List UInt8) × Int)} (h : M.spec_anyItem Ds = some r) :
    Cal2 Tryz.prog 103 [(pt Du Dv)] [Ch.bx Dt Du Dv [(Sl Gh Ds.1 Gi), (I Ds.2)] Dw Dx, Ch.ro 0 (Sl Gh Ds.1 Gi) Ds.1] (fun n0 v L => ∃ (az1 : Option Addr), ∃ (cz2 : Nat), ∃ (az3 : Option Addr), ∃ (cz4 : Nat), v = (.agg #[(I r.1.1), (Sl az1 r.1.2.1 cz2), (I r.1.2.2)]) ∧ L = [Ch.own n0 n0 (Sl az1 r.1.2.1 cz2) r.1.2.1, Ch.bx Dt Du Dv [(Sl az3 r.2.1 cz4), (I r.2.2)] Dw Dx, Ch.ro 0 (Sl az3 r.2.1 cz4) r.2.1]) := by
 refine cal2 (n := 26) Tryz.func103 rfl rfl rfl rfl ?_
 intro S0 σ0 n0 hn0 H
 unfold M.spec_anyItem at h
 refine c_seq (rg (st_ex (ex_alloc (cs := [(I 0), (.slice none 0 0), (I 0)]) H hn0 ti33 rfl) wn ?_))
 rintro _ σ2 ⟨b1, rfl, H, -⟩
 refine w_end (q_then (c_seq (rg (sm (pt Du Dv) rfl ?_))))
 revert h; refine br fun r3 hx4 h => ?_
 have hc5 := c_spec_someItem (Dt := Dt) (Du := Du) (Dv := Dv) (Dw := Dw) (Dx := Dx) (Gh := Gh) (Gi := Gi) hx4
 refine st_call (cx_call hc5 (ent_f hc5.fn rfl) hn0 (H.sel' [1, 2, 0, 2] rfl rfl : Hp S0 σ0 _ ([_, _] ++ _))) wn ?_
 rintro _ σ10 ⟨_, ⟨a6, c7, a8, c9, rfl, rfl⟩, H, -⟩
 replace H : Hp _ _ _ [_, _, _, _, _] := H
 refine st_ex (ex_alloc (cs := [(I 0), (.slice none 0 0), (I 0)]) H hn0 ti33 rfl) wn ?_
 rintro _ σ12 ⟨b11, rfl, H, -⟩
 refine st_exS (ex_store_box (k := 0) (cs := [(I 0), (.slice none 0 0), (I 0)]) (vs := [(I r3.1.1), (Sl a6 r3.1.2.1 c7), (I r3.1.2.2)]) (cs' := [(I r3.1.1), (Sl a6 r3.1.2.1 c7), (I r3.1.2.2)]) H (i := 0) rfl ti33 rfl rfl rfl rfl rfl (Nat.le_of_ble_eq_true rfl) (by simp [plain]) rfl) wn ?_
 rintro σ13 ⟨H, -⟩
 refine w_end (q_then (c_seq (c_seq (rg (sm (pt Du Dv) rfl ?_)))))
 revert h; refine br fun r14 hx15 h => ?_
 have hc16 := c_spec_reader_pick (Dt := Dt) (Du := Du) (Dv := Dv) (Dw := Dw) (Dx := Dx) (Gh := a8) (Gi := c9) hx15
 refine st_call (cx_call hc16 (ent_f hc16.fn rfl) hn0 (H.sel' [2, 3, 0, 1, 3, 4, 5] rfl rfl : Hp S0 σ0 _ ([_, _] ++ _))) wn ?_
 rintro _ σ19 ⟨_, ⟨a17, c18, rfl, rfl⟩, H, -⟩
 replace H : Hp _ _ _ [_, _, _, _, _, _, _] := H
 refine w_end (q_then ?_)
 obtain ⟨o20, hj, h'⟩ := bind_some h
 clear h
 refine c_cut (fun e a w => e = .normal ∧ ∃ (ρ : Nat → Value) (σ : St) (aj1 : Option Addr) (cj2 : Nat) (aj3 : Option Addr) (cj4 : Nat), a = fr 26 (updL ρ [(0, (pt Du Dv)), (2, (pt b1 0)), (3, (pt b11 0))]) ∧ w = σ.w ∧ Hp S0 σ0 σ [Ch.bx Dt Du Dv [(Sl aj1 o20.1.1 cj2), (I o20.1.2)] Dw Dx, Ch.ro 0 (Sl aj1 o20.1.1 cj2) o20.1.1, Ch.bx n0 b11 0 [(I o20.2.1), (Sl aj3 o20.2.2.1 cj4), (I o20.2.2.2)] [] [], Ch.own n0 n0 (Sl aj3 o20.2.2.1 cj4) o20.2.2.1, Ch.bx n0 b1 0 [(I 0), (.slice none 0 0), (I 0)] [] []]) ?_ ?_
 ·clear h'
  rename _ = some o20 => h
  refine c_blk (c_seq (rg (st (v := (B (r14.1 == 0))) (rv_eql (a := r14.1) (b := 0) rfl rfl) (sa (B (r14.1 == 0)) rfl (w_end (q_then ?_))))))
  refine cd_cond (r14.1 == 0) rfl (fun hb21 => ?_) (fun hb21 => ?_)
  ·replace h := bif_t hb21 h
   refine rg (sm (pt Du Dv) rfl ?_)
   refine st_ex (ex_buildSlice (el := n0) (xs := ([0, 99, 100] : List Int)) (ps := [(0, (I 0)), (1, (I 99)), (2, (I 100))]) (cs := [(I 0), (I 99), (I 100)]) H hn0 Tryz.underlying24 ti3 rfl rfl (by kernel_rfl) (.cons (c := [(I 0)]) rfl (.cons (c := [(I 99)]) rfl (.cons (c := [(I 100)]) rfl (.nil)))) rfl) wn ?_
   rintro _ σ23 ⟨b22, rfl, H, -⟩
   replace H : Hp S0 σ0 σ23 [Ch.own n0 n0 (Sl (some ⟨b22, 0, none⟩) ([0, 99, 100] : List Int) 3) ([0, 99, 100] : List Int), Ch.bx Dt Du Dv [(Sl a17 r14.2.1 c18), (I r14.2.2)] Dw Dx, Ch.ro 0 (Sl a17 r14.2.1 c18) r14.2.1, Ch.bx n0 b11 0 [(I r3.1.1), (Sl a6 r3.1.2.1 c7), (I r3.1.2.2)] [] [], Ch.own n0 n0 (Sl a6 r3.1.2.1 c7) r3.1.2.1, Ch.bx n0 b1 0 [(I 0), (.slice none 0 0), (I 0)] [] []] := H.sel' [0, 1, 2, 3, 4, 6] rfl rfl
   obtain ⟨σ24, hw25, H, -⟩ := H.pub 0 rfl (Nat.le_refl _)
   rw [← hw25]; clear hw25
   replace H := H.roLow 0 0 rfl (Nat.zero_le _)
   revert h; refine br fun r26 hx27 h => ?_
   have hc28 := c_spec_reader_one (Dt := Dt) (Du := Du) (Dv := Dv) (Dw := Dw) (Dx := Dx) (Gh := a17) (Gi := c18) (Gc := (some ⟨b22, 0, none⟩)) (Gd := 3) hx27
   refine st_call (cx_call hc28 (ent_f hc28.fn rfl) hn0 (H.sel' [2, 3, 0, 0, 1, 3, 4, 5, 6] rfl rfl : Hp S0 σ0 _ ([_, _, _] ++ _))) wn ?_
   rintro _ σ31 ⟨_, ⟨a29, c30, rfl, rfl⟩, H, -⟩
   replace H : Hp _ _ _ [_, _, _, _, _, _, _, _] := H
   replace H : Hp S0 σ0 σ31 [Ch.bx Dt Du Dv [(Sl a29 r26.2.1 c30), (I r26.2.2)] Dw Dx, Ch.ro 0 (Sl a29 r26.2.1 c30) r26.2.1, Ch.bx n0 b11 0 [(I r3.1.1), (Sl a6 r3.1.2.1 c7), (I r3.1.2.2)] [] [], Ch.own n0 n0 (Sl a6 r3.1.2.1 c7) r3.1.2.1, Ch.bx n0 b1 0 [(I 0), (.slice none 0 0), (I 0)] [] []] := H.sel' [0, 1, 5, 6, 7] rfl rfl
   refine st (v := (pt b11 0)) (rv_fieldAddr (off := 0) (ft := 3) Tryz.underlying33 rfl ti3 rfl rfl) ?_
   refine st_exS (ex_store_box (k := 0) (cs := [(I r3.1.1), (Sl a6 r3.1.2.1 c7), (I r3.1.2.2)]) (vs := [(I r26.1)]) (cs' := [(I r26.1), (Sl a6 r3.1.2.1 c7), (I r3.1.2.2)]) H (i := 2) rfl ti3 rfl rfl rfl rfl rfl (Nat.le_of_ble_eq_true rfl) (by simp [plain]) rfl) wn ?_
   rintro σ32 ⟨H, -⟩
   refine w_end (q_blk ?_)
   obtain rfl := sj h
   exact ⟨rfl, _, σ32, a29, c30, a6, c7, fr_join ⟨rfl, rfl, rfl, trivial⟩, rfl, H.sel' [1, 2, 0, 3, 4] rfl rfl⟩
  ·replace h := bif_f hb21 h
   refine c_seq (rg (st (v := (B (r14.1 == 1))) (rv_eql (a := r14.1) (b := 1) rfl rfl) (sa (B (r14.1 == 1)) rfl (w_end (q_then ?_)))))
   refine cd_cond (r14.1 == 1) rfl (fun hb33 => ?_) (fun hb33 => ?_)
   ·replace h := bif_t hb33 h
    refine rg (sm (pt Du Dv) rfl ?_)
    revert h; refine br fun r34 hx35 h => ?_
    have hc36 := c_spec_anyVector (Dt := Dt) (Du := Du) (Dv := Dv) (Dw := Dw) (Dx := Dx) (Gh := a17) (Gi := c18) hx35
    refine st_call (cx_call hc36 (ent_f hc36.fn rfl) hn0 (H.sel' [0, 1, 1, 2, 3, 4, 5, 6] rfl rfl : Hp S0 σ0 _ ([_, _] ++ _))) wn ?_
    rintro _ σ41 ⟨_, ⟨a37, c38, a39, c40, rfl, rfl⟩, H, -⟩
    replace H : Hp _ _ _ [_, _, _, _, _, _, _, _, _] := H
    replace H : Hp S0 σ0 σ41 [Ch.own n0 n0 (Sl a37 r34.1 c38) r34.1, Ch.bx Dt Du Dv [(Sl a39 r34.2.1 c40), (I r34.2.2)] Dw Dx, Ch.ro 0 (Sl a39 r34.2.1 c40) r34.2.1, Ch.bx n0 b11 0 [(I r3.1.1), (Sl a6 r3.1.2.1 c7), (I r3.1.2.2)] [] [], Ch.own n0 n0 (Sl a6 r3.1.2.1 c7) r3.1.2.1, Ch.bx n0 b1 0 [(I 0), (.slice none 0 0), (I 0)] [] []] := H.sel' [0, 1, 2, 4, 5, 7] rfl rfl
    refine st (v := (pt b11 1)) (rv_fieldAddr (off := 1) (ft := 24) Tryz.underlying33 rfl ti24 rfl rfl) ?_
    refine st_exS (ex_store_box (k := 1) (cs := [(I r3.1.1), (Sl a6 r3.1.2.1 c7), (I r3.1.2.2)]) (vs := [(Sl a37 r34.1 c38)]) (cs' := [(I r3.1.1), (Sl a37 r34.1 c38), (I r3.1.2.2)]) H (i := 3) rfl ti24 rfl rfl rfl rfl rfl (Nat.le_of_ble_eq_true rfl) (by simp [plain]) rfl) wn ?_
    rintro σ42 ⟨H, -⟩
    refine w_end (q_blk ?_)
    obtain rfl := sj h
    exact ⟨rfl, _, σ42, a39, c40, a37, c38, fr_join ⟨rfl, rfl, rfl, trivial⟩, rfl, H.sel' [2, 3, 0, 1, 5] rfl rfl⟩
   ·replace h := bif_f hb33 h
    refine c_seq (rg (st (v := (B (r14.1 == 2))) (rv_eql (a := r14.1) (b := 2) rfl rfl) (sa (B (r14.1 == 2)) rfl (w_end (q_then ?_)))))
    refine cd_cond (r14.1 == 2) rfl (fun hb43 => ?_) (fun hb43 => ?_)
    ·replace h := bif_t hb43 h
     refine rg (sm (pt Du Dv) rfl ?_)
     refine st_ex (ex_buildSlice (el := n0) (xs := ([-1, 16] : List Int)) (ps := [(0, (I (-1))), (1, (I 16))]) (cs := [(I (-1)), (I 16)]) H hn0 Tryz.underlying24 ti3 rfl rfl (by kernel_rfl) (.cons (c := [(I (-1))]) rfl (.cons (c := [(I 16)]) rfl (.nil))) rfl) wn ?_
     rintro _ σ45 ⟨b44, rfl, H, -⟩
     replace H : Hp S0 σ0 σ45 [Ch.own n0 n0 (Sl (some ⟨b44, 0, none⟩) ([-1, 16] : List Int) 2) ([-1, 16] : List Int), Ch.bx Dt Du Dv [(Sl a17 r14.2.1 c18), (I r14.2.2)] Dw Dx, Ch.ro 0 (Sl a17 r14.2.1 c18) r14.2.1, Ch.bx n0 b11 0 [(I r3.1.1), (Sl a6 r3.1.2.1 c7), (I r3.1.2.2)] [] [], Ch.own n0 n0 (Sl a6 r3.1.2.1 c7) r3.1.2.1, Ch.bx n0 b1 0 [(I 0), (.slice none 0 0), (I 0)] [] []] := H.sel' [0, 1, 2, 3, 4, 6] rfl rfl
     obtain ⟨σ46, hw47, H, -⟩ := H.pub 0 rfl (Nat.le_refl _)
     rw [← hw47]; clear hw47
     replace H := H.roLow 0 0 rfl (Nat.zero_le _)
     revert h; refine br fun r48 hx49 h => ?_
     have hc50 := c_spec_reader_one (Dt := Dt) (Du := Du) (Dv := Dv) (Dw := Dw) (Dx := Dx) (Gh := a17) (Gi := c18) (Gc := (some ⟨b44, 0, none⟩)) (Gd := 2) hx49
     refine st_call (cx_call hc50 (ent_f hc50.fn rfl) hn0 (H.sel' [2, 3, 0, 0, 1, 3, 4, 5, 6] rfl rfl : Hp S0 σ0 _ ([_, _, _] ++ _))) wn ?_
     rintro _ σ53 ⟨_, ⟨a51, c52, rfl, rfl⟩, H, -⟩
     replace H : Hp _ _ _ [_, _, _, _, _, _, _, _] := H
     replace H : Hp S0 σ0 σ53 [Ch.bx Dt Du Dv [(Sl a51 r48.2.1 c52), (I r48.2.2)] Dw Dx, Ch.ro 0 (Sl a51 r48.2.1 c52) r48.2.1, Ch.bx n0 b11 0 [(I r3.1.1), (Sl a6 r3.1.2.1 c7), (I r3.1.2.2)] [] [], Ch.own n0 n0 (Sl a6 r3.1.2.1 c7) r3.1.2.1, Ch.bx n0 b1 0 [(I 0), (.slice none 0 0), (I 0)] [] []] := H.sel' [0, 1, 5, 6, 7] rfl rfl
     refine st (v := (pt b11 2)) (rv_fieldAddr (off := 2) (ft := 3) Tryz.underlying33 rfl ti3 rfl rfl) ?_
     refine st_exS (ex_store_box (k := 2) (cs := [(I r3.1.1), (Sl a6 r3.1.2.1 c7), (I r3.1.2.2)]) (vs := [(I r48.1)]) (cs' := [(I r3.1.1), (Sl a6 r3.1.2.1 c7), (I r48.1)]) H (i := 2) rfl ti3 rfl rfl rfl rfl rfl (Nat.le_of_ble_eq_true rfl) (by simp [plain]) rfl) wn ?_
     rintro σ54 ⟨H, -⟩
     refine w_end (q_blk ?_)
     obtain rfl := sj h
     exact ⟨rfl, _, σ54, a51, c52, a6, c7, fr_join ⟨rfl, rfl, rfl, trivial⟩, rfl, H.sel' [1, 2, 0, 3, 4] rfl rfl⟩
    ·replace h := bif_f hb43 h
     refine c_skip (q_blk ?_)
     obtain rfl := sj h
     exact ⟨rfl, _, σ19, a17, c18, a6, c7, fr_join ⟨rfl, rfl, rfl, trivial⟩, rfl, H.sel' [0, 1, 2, 3, 5] rfl rfl⟩
 ·clear hj
  have h := h'
  clear h' H
  rintro e a w ⟨rfl, ρ, σ55, a56, c57, a58, c59, rfl, rfl, H⟩
  refine q_then (c_seq (rg ?_))
  have hc60 := H.cells 2 rfl
  refine st (v := (.agg #[(I o20.2.1), (Sl a58 o20.2.2.1 c59), (I o20.2.2.2)])) (rv_load (cs := [(I o20.2.1), (Sl a58 o20.2.2.1 c59), (I o20.2.2.2)]) Tryz.underlying33 rfl ti33 rfl rfl hc60) ?_
  refine st_exS (ex_store_box (k := 0) (cs := [(I 0), (.slice none 0 0), (I 0)]) (vs := [(I o20.2.1), (Sl a58 o20.2.2.1 c59), (I o20.2.2.2)]) (cs' := [(I o20.2.1), (Sl a58 o20.2.2.1 c59), (I o20.2.2.2)]) H (i := 4) rfl ti33 rfl rfl rfl rfl rfl (Nat.le_of_ble_eq_true rfl) (by simp [plain]) rfl) wn ?_
  rintro σ61 ⟨H, -⟩
  refine w_end (q_then (c_ret ?_))
  obtain rfl := sj h
  exact fin_ret (v := (.agg #[(I o20.2.1), (Sl a58 o20.2.2.1 c59), (I o20.2.2.2)])) (results_ok Tryz.results103 (res_cell rfl (run_cellRes (cs := [(I o20.2.1), (Sl a58 o20.2.2.1 c59), (I o20.2.2.2)]) Tryz.underlying33 rfl ti33 rfl (H.cells 0 rfl)) res_nil) rfl) ⟨a58, c59, a56, c57, rfl, rfl⟩ (H.sel' [4, 1, 2] rfl rfl)

theorem c_spec_anyStore {Ds : (List UInt8) × Int} {Gh : Option Addr} {Gi : Nat} {Dt Du Dv : Nat} {Dw Dx : List Value} {r : (List (Int × (List Int) × Int)) × ((List UInt8) × Int)} (h : M.spec_anyStore Ds = some r) :
    Cal2 Tryz.prog 51 [(pt Du Dv)] [Ch.bx Dt Du Dv [(Sl Gh Ds.1 Gi), (I Ds.2)] Dw Dx, Ch.ro 0 (Sl Gh Ds.1 Gi) Ds.1] (fun n0 v L => ∃ (az1 : Option Addr), ∃ (cz2 : Nat), ∃ (az3 : Option Addr), ∃ (cz4 : Nat), v = (Sl az1 r.1 cz2) ∧ L = [Ch.own n0 n0 (Sl az1 r.1 cz2) r.1, Ch.bx Dt Du Dv [(Sl az3 r.2.1 cz4), (I r.2.2)] Dw Dx, Ch.ro 0 (Sl az3 r.2.1 cz4) r.2.1]) := by
 refine cal2 (n := 30) Tryz.func51 rfl rfl rfl rfl ?_
 intro S0 σ0 n0 hn0 H
 unfold M.spec_anyStore at h
 refine c_seq (rg (sa (.slice none 0 0) rfl (w_end (q_then (c_seq (rg (sm (pt Du Dv) rfl ?_)))))))
 revert h; refine br fun r1 hx2 h => ?_
 have hc3 := c_spec_someStore (Dt := Dt) (Du := Du) (Dv := Dv) (Dw := Dw) (Dx := Dx) (Gh := Gh) (Gi := Gi) hx2
 refine st_call (cx_call hc3 (ent_f hc3.fn rfl) hn0 (H.sel' [0, 1, 1] rfl rfl : Hp S0 σ0 _ ([_, _] ++ _))) wn ?_
 rintro _ σ8 ⟨_, ⟨a4, c5, a6, c7, rfl, rfl⟩, H, -⟩
 replace H : Hp _ _ _ [_, _, _, _] := H
 refine sa (Sl a4 r1.1 c5) rfl (w_end (q_then (c_seq (c_seq (rg (sm (pt Du Dv) rfl ?_))))))
 revert h; refine br fun r9 hx10 h => ?_
 have hc11 := c_spec_reader_pick (Dt := Dt) (Du := Du) (Dv := Dv) (Dw := Dw) (Dx := Dx) (Gh := a6) (Gi := c7) hx10
 refine st_call (cx_call hc11 (ent_f hc11.fn rfl) hn0 (H.sel' [1, 2, 0, 2, 3] rfl rfl : Hp S0 σ0 _ ([_, _] ++ _))) wn ?_
 rintro _ σ14 ⟨_, ⟨a12, c13, rfl, rfl⟩, H, -⟩
 replace H : Hp _ _ _ [_, _, _, _, _] := H
 refine w_end (q_then ?_)
 obtain ⟨o15, hj, h'⟩ := bind_some h
 clear h
 refine c_cut (fun e a w => e = .normal ∧ ∃ (ρ : Nat → Value) (σ : St) (aj1 : Option Addr) (cj2 : Nat) (aj3 : Option Addr) (cj4 : Nat), a = fr 30 (updL ρ [(0, (pt Du Dv)), (3, (Sl aj3 o15.2 cj4))]) ∧ w = σ.w ∧ Hp S0 σ0 σ [Ch.bx Dt Du Dv [(Sl aj1 o15.1.1 cj2), (I o15.1.2)] Dw Dx, Ch.ro 0 (Sl aj1 o15.1.1 cj2) o15.1.1, Ch.own n0 n0 (Sl aj3 o15.2 cj4) o15.2]) ?_ ?_
 ·clear h'
  rename _ = some o15 => h
  refine c_blk (c_seq (rg (st (v := (B (r9.1 == 0))) (rv_eql (a := r9.1) (b := 0) rfl rfl) (sa (B (r9.1 == 0)) rfl (w_end (q_then ?_))))))
  refine cd_cond (r9.1 == 0) rfl (fun hb16 => ?_) (fun hb16 => ?_)
  ·replace h := bif_t hb16 h
   refine rg (sm (Sl a4 r1.1 c5) rfl (sm (pt Du Dv) rfl ?_))
   revert h; refine br fun r17 hx18 h => ?_
   have hc19 := c_spec_anyItem (Dt := Dt) (Du := Du) (Dv := Dv) (Dw := Dw) (Dx := Dx) (Gh := a12) (Gi := c13) hx18
   refine st_call (cx_call hc19 (ent_f hc19.fn rfl) hn0 (H.sel' [0, 1, 1, 2, 3, 4] rfl rfl : Hp S0 σ0 _ ([_, _] ++ _))) wn ?_
   rintro _ σ24 ⟨_, ⟨a20, c21, a22, c23, rfl, rfl⟩, H, -⟩
   replace H : Hp _ _ _ [_, _, _, _, _, _, _] := H
   obtain ⟨σ25, hw26, H, -⟩ := H.pub 0 rfl (Nat.le_refl _)
   rw [← hw26]; clear hw26
   refine st_ex (ex_buildSlice (el := n0) (xs := ([(r17.1.1, r17.1.2.1, r17.1.2.2)] : List (Int × (List Int) × Int))) (ps := [(0, (.agg #[(I r17.1.1), (Sl a20 r17.1.2.1 c21), (I r17.1.2.2)]))]) (cs := [(I r17.1.1), (Sl a20 r17.1.2.1 c21), (I r17.1.2.2)]) H hn0 Tryz.underlying23 ti33 rfl rfl (by kernel_rfl) (.cons (c := [(I r17.1.1), (Sl a20 r17.1.2.1 c21), (I r17.1.2.2)]) ⟨[(I r17.1.1)], [(Sl a20 r17.1.2.1 c21), (I r17.1.2.2)], rfl, rfl, ⟨[(Sl a20 r17.1.2.1 c21)], [(I r17.1.2.2)], rfl, ⟨_, rfl, (H.ro 0 rfl)⟩, rfl⟩⟩ (.nil)) rfl) wn ?_
   rintro _ σ28 ⟨b27, rfl, H, -⟩
   replace H : Hp S0 σ0 σ28 [Ch.own n0 n0 (Sl (some ⟨b27, 0, none⟩) ([(r17.1.1, r17.1.2.1, r17.1.2.2)] : List (Int × (List Int) × Int)) 1) ([(r17.1.1, r17.1.2.1, r17.1.2.2)] : List (Int × (List Int) × Int)), Ch.bx Dt Du Dv [(Sl a22 r17.2.1 c23), (I r17.2.2)] Dw Dx, Ch.ro 0 (Sl a22 r17.2.1 c23) r17.2.1, Ch.own n0 n0 (Sl a4 r1.1 c5) r1.1] := H.sel' [0, 2, 3, 5] rfl rfl
   revert h; refine br fun xs29 hx30 h => ?_
   refine st_ex (ex_append H (i := 3) rfl Tryz.underlying23 Tryz.underlying23 ti33 rfl rfl (by decide) (H.own 0 rfl).rd hx30 hn0 rfl rfl) wn ?_
   rintro _ σ33 ⟨a31, c32, rfl, H, -⟩
   refine sa (Sl a31 xs29 c32) rfl (w_end (q_blk ?_))
   obtain rfl := sj h
   exact ⟨rfl, _, σ33, a22, c23, a31, c32, fr_join ⟨rfl, rfl, trivial⟩, rfl, H.sel' [2, 3, 0] rfl rfl⟩
  ·replace h := bif_f hb16 h
   refine c_seq (rg (st (v := (B (r9.1 == 1))) (rv_eql (a := r9.1) (b := 1) rfl rfl) (sa (B (r9.1 == 1)) rfl (w_end (q_then ?_)))))
   refine cd_cond (r9.1 == 1) rfl (fun hb34 => ?_) (fun hb34 => ?_)
   ·replace h := bif_t hb34 h
    refine c_seq (rg (sm (Sl a4 r1.1 c5) rfl (st (v := (I (r1.1.length : Int))) (rv_len Tryz.underlying23 rfl) (st (v := (B (decide (0 < (r1.1.length : Int))))) (rv_gtr (a := (r1.1.length : Int)) (b := 0) rfl rfl) (w_end (q_then ?_))))))
    refine cd_cond (decide (0 < (r1.1.length : Int))) rfl (fun hb35 => ?_) (fun hb35 => ?_)
    ·replace h := bif_t hb35 h
     refine rg (sm (Sl a4 r1.1 c5) rfl (sm (pt Du Dv) rfl (sm (Sl a4 r1.1 c5) rfl (st (v := (I (r1.1.length : Int))) (rv_len Tryz.underlying23 rfl) ?_))))
     revert h; refine br fun r36 hx37 h => ?_
     have hc38 := c_spec_reader_pick (Dt := Dt) (Du := Du) (Dv := Dv) (Dw := Dw) (Dx := Dx) (Gh := a12) (Gi := c13) hx37
     refine st_call (cx_call hc38 (ent_f hc38.fn rfl) hn0 (H.sel' [0, 1, 1, 2, 3, 4] rfl rfl : Hp S0 σ0 _ ([_, _] ++ _))) wn ?_
     rintro _ σ41 ⟨_, ⟨a39, c40, rfl, rfl⟩, H, -⟩
     replace H : Hp _ _ _ [_, _, _, _, _, _] := H
     refine sm (pt Du Dv) rfl ?_
     revert h; refine br fun r42 hx43 h => ?_
     have hc44 := c_spec_anyVector (Dt := Dt) (Du := Du) (Dv := Dv) (Dw := Dw) (Dx := Dx) (Gh := a39) (Gi := c40) hx43
     refine st_call (cx_call hc44 (ent_f hc44.fn rfl) hn0 (H.sel' [0, 1, 1, 2, 3, 4, 5] rfl rfl : Hp S0 σ0 _ ([_, _] ++ _))) wn ?_
     rintro _ σ49 ⟨_, ⟨a45, c46, a47, c48, rfl, rfl⟩, H, -⟩
     replace H : Hp _ _ _ [_, _, _, _, _, _, _, _] := H
     replace H : Hp S0 σ0 σ49 [Ch.own n0 n0 (Sl a45 r42.1 c46) r42.1, Ch.bx Dt Du Dv [(Sl a47 r42.2.1 c48), (I r42.2.2)] Dw Dx, Ch.ro 0 (Sl a47 r42.2.1 c48) r42.2.1, Ch.own n0 n0 (Sl a4 r1.1 c5) r1.1] := H.sel' [0, 1, 2, 5] rfl rfl
     revert h; refine br fun x50 hx51 h => ?_
     obtain ⟨b53, o54, hi52, -⟩ := (H.own 3 rfl).ix hx51
     refine st (v := (pt b53 o54)) (rv_ix Tryz.underlying23 ti33 rfl rfl hi52) (st (v := (pt b53 (o54 + 1))) (rv_fieldAddr (off := 1) (ft := 24) Tryz.underlying33 rfl ti24 rfl rfl) ?_)
     obtain ⟨σ55, hw56, H, -⟩ := H.pub 0 rfl (Nat.le_refl _)
     rw [← hw56]; clear hw56
     refine st_exS (ex_store_own (e' := (x50.1, r42.1, x50.2.2)) (vs := [(Sl a45 r42.1 c46)]) (k := 1) H (i := 3) rfl ti24 hx51 hi52 rfl rfl rfl rfl rfl (Nat.le_of_ble_eq_true rfl) (by simp [plain]) (by rintro _ ⟨_, _, rfl, rfl, ⟨_, _, rfl, ⟨_, rfl, hR59⟩, rfl⟩⟩; exact ⟨[(I x50.1)], [(Sl a45 r42.1 c46), (I x50.2.2)], rfl, rfl, ⟨[(Sl a45 r42.1 c46)], [(I x50.2.2)], rfl, ⟨_, rfl, (H.ro 0 rfl)⟩, rfl⟩⟩)) wn ?_
     rintro σ60 ⟨H, -⟩
     have hsl : (Sl a4 r1.1 c5) = (Sl a4 (r1.1.set r36.1.toNat (x50.1, r42.1, x50.2.2)) c5) := sl_len List.length_set.symm
     rw [hsl]; rw [hsl] at H; clear hsl
     refine w_end (q_blk ?_)
     obtain rfl := sj h
     exact ⟨rfl, _, σ60, a47, c48, a4, c5, fr_join ⟨rfl, rfl, trivial⟩, rfl, H.sel' [2, 3, 0] rfl rfl⟩
    ·replace h := bif_f hb35 h
     refine c_skip (q_blk ?_)
     obtain rfl := sj h
     exact ⟨rfl, _, σ14, a12, c13, a4, c5, fr_join ⟨rfl, rfl, trivial⟩, rfl, H.sel' [0, 1, 2] rfl rfl⟩
   ·replace h := bif_f hb34 h
    refine c_skip (q_blk ?_)
    obtain rfl := sj h
    exact ⟨rfl, _, σ14, a12, c13, a4, c5, fr_join ⟨rfl, rfl, trivial⟩, rfl, H.sel' [0, 1, 2] rfl rfl⟩
 ·clear hj
  have h := h'
  clear h' H
  rintro e a w ⟨rfl, ρ, σ61, a62, c63, a64, c65, rfl, rfl, H⟩
  refine q_then (c_seq (rg (sm (Sl a64 o15.2 c65) rfl (sa (Sl a64 o15.2 c65) rfl (w_end (q_then (c_ret ?_)))))))
  obtain rfl := sj h
  exact fin_ret (v := (Sl a64 o15.2 c65)) (results_ok Tryz.results51 (res_tmp (v := (Sl a64 o15.2 c65)) rfl res_nil) rfl) ⟨a64, c65, a62, c63, rfl, rfl⟩ (H.sel' [2, 0, 1] rfl rfl)

theorem c_spec_someK {Ds : (List UInt8) × Int} {Gh : Option Addr} {Gi : Nat} {Dt Du Dv : Nat} {Dw Dx : List Value} {r : Int × ((List UInt8) × Int)} (h : M.spec_someK Ds = some r) :
    Cal2 Tryz.prog 53 [(pt Du Dv)] [Ch.bx Dt Du Dv [(Sl Gh Ds.1 Gi), (I Ds.2)] Dw Dx, Ch.ro 0 (Sl Gh Ds.1 Gi) Ds.1] (fun n0 v L => ∃ (az1 : Option Addr), ∃ (cz2 : Nat), v = (I r.1) ∧ L = [Ch.bx Dt Du Dv [(Sl az1 r.2.1 cz2), (I r.2.2)] Dw Dx, Ch.ro 0 (Sl az1 r.2.1 cz2) r.2.1]) := by
 refine cal2 (n := 6) Tryz.func53 rfl rfl rfl rfl ?_
 intro S0 σ0 n0 hn0 H
 unfold M.spec_someK at h
 refine c_seq (rg (sa (I 0) rfl (w_end (q_then (c_seq (rg (sm (pt Du Dv) rfl ?_)))))))
 refine st_ex (ex_buildSlice (el := n0) (xs := ([1, 2, 3, 5, 16, 4, 0, 17] : List Int)) (ps := [(0, (I 1)), (1, (I 2)), (2, (I 3)), (3, (I 5)), (4, (I 16)), (5, (I 4)), (6, (I 0)), (7, (I 17))]) (cs := [(I 1), (I 2), (I 3), (I 5), (I 16), (I 4), (I 0), (I 17)]) H hn0 Tryz.underlying24 ti3 rfl rfl (by kernel_rfl) (.cons (c := [(I 1)]) rfl (.cons (c := [(I 2)]) rfl (.cons (c := [(I 3)]) rfl (.cons (c := [(I 5)]) rfl (.cons (c := [(I 16)]) rfl (.cons (c := [(I 4)]) rfl (.cons (c := [(I 0)]) rfl (.cons (c := [(I 17)]) rfl (.nil))))))))) rfl) wn ?_
 rintro _ σ2 ⟨b1, rfl, H, -⟩
 obtain ⟨σ3, hw4, H, -⟩ := H.pub 0 rfl (Nat.le_refl _)
 rw [← hw4]; clear hw4
 replace H := H.roLow 0 0 rfl (Nat.zero_le _)
 revert h; refine br fun r5 hx6 h => ?_
 have hc7 := c_spec_reader_one (Dt := Dt) (Du := Du) (Dv := Dv) (Dw := Dw) (Dx := Dx) (Gh := Gh) (Gi := Gi) (Gc := (some ⟨b1, 0, none⟩)) (Gd := 8) hx6
 refine st_call (cx_call hc7 (ent_f hc7.fn rfl) hn0 (H.sel' [2, 3, 0, 0, 1, 3] rfl rfl : Hp S0 σ0 _ ([_, _, _] ++ _))) wn ?_
 rintro _ σ10 ⟨_, ⟨a8, c9, rfl, rfl⟩, H, -⟩
 replace H : Hp _ _ _ [_, _, _, _, _] := H
 refine sa (I r5.1) rfl (w_end (q_then (c_ret ?_)))
 obtain rfl := sj h
 exact fin_ret (v := (I r5.1)) (results_ok Tryz.results53 (res_tmp (v := (I r5.1)) rfl res_nil) rfl) ⟨a8, c9, rfl, rfl⟩ (H.sel' [0, 1] rfl rfl)

theorem c_spec_someHalves {Ds : (List UInt8) × Int} {Gh : Option Addr} {Gi : Nat} {Dt Du Dv : Nat} {Dw Dx : List Value} {r : (List (List Int)) × ((List UInt8) × Int)} (h : M.spec_someHalves Ds = some r) :
    Cal2 Tryz.prog 110 [(pt Du Dv)] [Ch.bx Dt Du Dv [(Sl Gh Ds.1 Gi), (I Ds.2)] Dw Dx, Ch.ro 0 (Sl Gh Ds.1 Gi) Ds.1] (fun n0 v L => ∃ (az1 : Option Addr), ∃ (cz2 : Nat), ∃ (az3 : Option Addr), ∃ (cz4 : Nat), v = (Sl az1 r.1 cz2) ∧ L = [Ch.own n0 n0 (Sl az1 r.1 cz2) r.1, Ch.bx Dt Du Dv [(Sl az3 r.2.1 cz4), (I r.2.2)] Dw Dx, Ch.ro 0 (Sl az3 r.2.1 cz4) r.2.1]) := by
 refine cal2 (n := 19) Tryz.func110 rfl rfl rfl rfl ?_
 intro S0 σ0 n0 hn0 H
 unfold M.spec_someHalves at h
 refine c_seq (rg (sa (.slice none 0 0) rfl (w_end (q_then (c_seq (rg ?_))))))
 refine st_ex (ex_buildSlice (el := n0) (xs := ([] : List (List Int))) (ps := []) (cs := []) H hn0 Tryz.underlying37 ti24 rfl rfl (by kernel_rfl) (.nil) rfl) wn ?_
 rintro _ σ2 ⟨b1, rfl, H, -⟩
 refine sa (Sl (some ⟨b1, 0, none⟩) ([] : List (List Int)) 0) rfl (w_end (q_then (c_seq (c_seq (rg (sa (I 0) rfl (w_end (q_then ?_))))))))
 obtain ⟨o3, hj, h'⟩ := bind_some h
 clear h
 refine c_cut (fun e a w => e = .normal ∧ ∃ (ρ : Nat → Value) (σ : St) (aj1 : Option Addr) (cj2 : Nat) (aj3 : Option Addr) (cj4 : Nat), a = fr 19 (updL ρ [(0, (pt Du Dv)), (3, (Sl aj3 o3.2 cj4))]) ∧ w = σ.w ∧ Hp S0 σ0 σ [Ch.bx Dt Du Dv [(Sl aj1 o3.1.1 cj2), (I o3.1.2)] Dw Dx, Ch.ro 0 (Sl aj1 o3.1.1 cj2) o3.1.1, Ch.own n0 n0 (Sl aj3 o3.2 cj4) o3.2]) ?_ ?_
 ·clear h'
  rename _ = some o3 => h
  refine c_blk (wp_loopM _ h (fun s4 a w => ∃ (ρ : Nat → Value) (σ : St) (aj1 : Option Addr) (cj2 : Nat) (aj3 : Option Addr) (cj4 : Nat), a = fr 19 (updL ρ [(0, (pt Du Dv)), (3, (Sl aj3 s4.2.1 cj4)), (4, (I s4.2.2))]) ∧ w = σ.w ∧ Hp S0 σ0 σ [Ch.bx Dt Du Dv [(Sl aj1 s4.1.1 cj2), (I s4.1.2)] Dw Dx, Ch.ro 0 (Sl aj1 s4.1.1 cj2) s4.1.1, Ch.own n0 n0 (Sl aj3 s4.2.1 cj4) s4.2.1]) ⟨_, σ2, Gh, Gi, (some ⟨b1, 0, none⟩), 0, fr_join ⟨rfl, rfl, rfl, trivial⟩, rfl, H.sel' [1, 2, 0] rfl rfl⟩ ?_)
  clear h H
  rintro s4 a w o ⟨ρ, σ5, a6, c7, a8, c9, rfl, rfl, H⟩ h hres
  refine c_seq (c_seq (rg (sm (I s4.2.2) rfl (st (v := (B (decide (s4.2.2 < 4)))) (rv_lss (a := s4.2.2) (b := 4) rfl rfl) (w_end (q_then ?_))))))
  refine cd_cond (decide (s4.2.2 < 4)) rfl (fun hb10 => ?_) (fun hb10 => ?_)
  ·replace h := bif_t hb10 h
   refine c_skip (q_then (c_seq (c_blk (rg (sm (Sl a8 s4.2.1 c9) rfl (sm (pt Du Dv) rfl ?_))))))
   revert h; refine br fun r11 hx12 h => ?_
   have hc13 := c_spec_someCoord (Dt := Dt) (Du := Du) (Dv := Dv) (Dw := Dw) (Dx := Dx) (Gh := a6) (Gi := c7) hx12
   refine st_call (cx_call hc13 (ent_f hc13.fn rfl) hn0 (H.sel' [0, 1, 1, 2] rfl rfl : Hp S0 σ0 _ ([_, _] ++ _))) wn ?_
   rintro _ σ16 ⟨_, ⟨a14, c15, rfl, rfl⟩, H, -⟩
   replace H : Hp _ _ _ [_, _, _, _] := H
   refine sm (pt Du Dv) rfl ?_
   revert h; refine br fun r17 hx18 h => ?_
   have hc19 := c_spec_someCoord (Dt := Dt) (Du := Du) (Dv := Dv) (Dw := Dw) (Dx := Dx) (Gh := a14) (Gi := c15) hx18
   refine st_call (cx_call hc19 (ent_f hc19.fn rfl) hn0 (H.sel' [0, 1, 1, 2, 3] rfl rfl : Hp S0 σ0 _ ([_, _] ++ _))) wn ?_
   rintro _ σ22 ⟨_, ⟨a20, c21, rfl, rfl⟩, H, -⟩
   replace H : Hp _ _ _ [_, _, _, _, _] := H
   refine st_ex (ex_buildSlice (el := n0) (xs := ([r11.1, r17.1] : List Int)) (ps := [(0, (I r11.1)), (1, (I r17.1))]) (cs := [(I r11.1), (I r17.1)]) H hn0 Tryz.underlying24 ti3 rfl rfl (by kernel_rfl) (.cons (c := [(I r11.1)]) rfl (.cons (c := [(I r17.1)]) rfl (.nil))) rfl) wn ?_
   rintro _ σ24 ⟨b23, rfl, H, -⟩
   obtain ⟨σ25, hw26, H, -⟩ := H.pub 0 rfl (Nat.le_refl _)
   rw [← hw26]; clear hw26
   refine st_ex (ex_buildSlice (el := n0) (xs := ([([r11.1, r17.1] : List Int)] : List (List Int))) (ps := [(0, (Sl (some ⟨b23, 0, none⟩) ([r11.1, r17.1] : List Int) 2))]) (cs := [(Sl (some ⟨b23, 0, none⟩) ([r11.1, r17.1] : List Int) 2)]) H hn0 Tryz.underlying37 ti24 rfl rfl (by kernel_rfl) (.cons (c := [(Sl (some ⟨b23, 0, none⟩) ([r11.1, r17.1] : List Int) 2)]) ⟨_, rfl, (H.ro 0 rfl)⟩ (.nil)) rfl) wn ?_
   rintro _ σ28 ⟨b27, rfl, H, -⟩
   revert h; refine br fun xs29 hx30 h => ?_
   refine st_ex (ex_append H (i := 6) rfl Tryz.underlying37 Tryz.underlying37 ti24 rfl rfl (by decide) (H.own 0 rfl).rd hx30 hn0 rfl rfl) wn ?_
   rintro _ σ33 ⟨a31, c32, rfl, H, -⟩
   refine sa (Sl a31 xs29 c32) rfl (w_end (q_blk (q_then (rg (sm (I s4.2.2) rfl (st (v := (I (w64 (s4.2.2 + 1)))) (rv_add (a := s4.2.2) (b := 1) rfl rfl) (sa (I (w64 (s4.2.2 + 1))) rfl (w_end (q_then ?_)))))))))
   obtain rfl := sj h
   exact ⟨_, rfl, _, σ33, a20, c21, a31, c32, fr_join ⟨rfl, rfl, rfl, trivial⟩, rfl, H.sel' [3, 4, 0] rfl rfl⟩
  ·replace h := bif_f hb10 h
   refine c_exit (q_then_x (q_then_x (q_blk_hit ?_)))
   obtain rfl := sj h
   obtain rfl := hres _ rfl
   exact ⟨rfl, _, σ5, a6, c7, a8, c9, fr_join ⟨rfl, rfl, trivial⟩, rfl, H.sel' [0, 1, 2] rfl rfl⟩
 ·clear hj
  have h := h'
  clear h' H
  rintro e a w ⟨rfl, ρ, σ34, a35, c36, a37, c38, rfl, rfl, H⟩
  refine q_then (c_seq (rg (sm (Sl a37 o3.2 c38) rfl (sa (Sl a37 o3.2 c38) rfl (w_end (q_then (c_ret ?_)))))))
  obtain rfl := sj h
  exact fin_ret (v := (Sl a37 o3.2 c38)) (results_ok Tryz.results110 (res_tmp (v := (Sl a37 o3.2 c38)) rfl res_nil) rfl) ⟨a37, c38, a35, c36, rfl, rfl⟩ (H.sel' [2, 0, 1] rfl rfl)

theorem c_spec_anyBook {Ds : (List UInt8) × Int} {Gh : Option Addr} {Gi : Nat} {Dt Du Dv : Nat} {Dw Dx : List Value} {r : ((List (List Int)) × (List (List Int))) × ((List UInt8) × Int)} (h : M.spec_anyBook Ds = some r) :
    Cal2 Tryz.prog 65 [(pt Du Dv)] [Ch.bx Dt Du Dv [(Sl Gh Ds.1 Gi), (I Ds.2)] Dw Dx, Ch.ro 0 (Sl Gh Ds.1 Gi) Ds.1] (fun n0 v L => ∃ (az1 : Option Addr), ∃ (cz2 : Nat), ∃ (az3 : Option Addr), ∃ (cz4 : Nat), ∃ (az5 : Option Addr), ∃ (cz6 : Nat), v = (.agg #[(Sl az1 r.1.1 cz2), (Sl az3 r.1.2 cz4)]) ∧ L = [Ch.own n0 n0 (Sl az1 r.1.1 cz2) r.1.1, Ch.own n0 n0 (Sl az3 r.1.2 cz4) r.1.2, Ch.bx Dt Du Dv [(Sl az5 r.2.1 cz6), (I r.2.2)] Dw Dx, Ch.ro 0 (Sl az5 r.2.1 cz6) r.2.1]) := by
 refine cal2 (n := 28) Tryz.func65 rfl rfl rfl rfl ?_
 intro S0 σ0 n0 hn0 H
 unfold M.spec_anyBook at h
 refine c_seq (rg (st_ex (ex_alloc (cs := [(.slice none 0 0), (.slice none 0 0)]) H hn0 ti47 rfl) wn ?_))
 rintro _ σ2 ⟨b1, rfl, H, -⟩
 refine w_end (q_then (c_seq (rg (sm (pt Du Dv) rfl ?_))))
 revert h; refine br fun r3 hx4 h => ?_
 have hc5 := c_spec_someHalves (Dt := Dt) (Du := Du) (Dv := Dv) (Dw := Dw) (Dx := Dx) (Gh := Gh) (Gi := Gi) hx4
 refine st_call (cx_call hc5 (ent_f hc5.fn rfl) hn0 (H.sel' [1, 2, 0, 2] rfl rfl : Hp S0 σ0 _ ([_, _] ++ _))) wn ?_
 rintro _ σ10 ⟨_, ⟨a6, c7, a8, c9, rfl, rfl⟩, H, -⟩
 replace H : Hp _ _ _ [_, _, _, _, _] := H
 refine sm (pt Du Dv) rfl ?_
 revert h; refine br fun r11 hx12 h => ?_
 have hc13 := c_spec_someHalves (Dt := Dt) (Du := Du) (Dv := Dv) (Dw := Dw) (Dx := Dx) (Gh := a8) (Gi := c9) hx12
 refine st_call (cx_call hc13 (ent_f hc13.fn rfl) hn0 (H.sel' [1, 2, 0, 2, 3, 4] rfl rfl : Hp S0 σ0 _ ([_, _] ++ _))) wn ?_
 rintro _ σ18 ⟨_, ⟨a14, c15, a16, c17, rfl, rfl⟩, H, -⟩
 replace H : Hp _ _ _ [_, _, _, _, _, _, _] := H
 refine st (v := (.agg #[(Sl a6 r3.1 c7), (Sl a14 r11.1 c15)])) (rv_build (ps := [(0, (Sl a6 r3.1 c7)), (1, (Sl a14 r11.1 c15))]) Tryz.underlying47 ti47 (bp47 Tryz.underlying47) rfl (by kernel_rfl)) ?_
 refine st_ex (ex_alloc (cs := [(.slice none 0 0), (.slice none 0 0)]) H hn0 ti47 rfl) wn ?_
 rintro _ σ20 ⟨b19, rfl, H, -⟩
 replace H : Hp S0 σ0 σ20 [Ch.bx n0 b19 0 [(.slice none 0 0), (.slice none 0 0)] [] [], Ch.own n0 n0 (Sl a14 r11.1 c15) r11.1, Ch.bx Dt Du Dv [(Sl a16 r11.2.1 c17), (I r11.2.2)] Dw Dx, Ch.ro 0 (Sl a16 r11.2.1 c17) r11.2.1, Ch.own n0 n0 (Sl a6 r3.1 c7) r3.1, Ch.bx n0 b1 0 [(.slice none 0 0), (.slice none 0 0)] [] []] := H.sel' [0, 1, 2, 3, 4, 6] rfl rfl
 refine st_exS (ex_store_box (k := 0) (cs := [(.slice none 0 0), (.slice none 0 0)]) (vs := [(Sl a6 r3.1 c7), (Sl a14 r11.1 c15)]) (cs' := [(Sl a6 r3.1 c7), (Sl a14 r11.1 c15)]) H (i := 0) rfl ti47 rfl rfl rfl rfl rfl (Nat.le_of_ble_eq_true rfl) (by simp [plain]) rfl) wn ?_
 rintro σ21 ⟨H, -⟩
 refine w_end (q_then (c_seq (c_seq (rg (sm (pt Du Dv) rfl ?_)))))
 revert h; refine br fun r22 hx23 h => ?_
 have hc24 := c_spec_reader_pick (Dt := Dt) (Du := Du) (Dv := Dv) (Dw := Dw) (Dx := Dx) (Gh := a16) (Gi := c17) hx23
 refine st_call (cx_call hc24 (ent_f hc24.fn rfl) hn0 (H.sel' [2, 3, 0, 1, 3, 4, 5] rfl rfl : Hp S0 σ0 _ ([_, _] ++ _))) wn ?_
 rintro _ σ27 ⟨_, ⟨a25, c26, rfl, rfl⟩, H, -⟩
 replace H : Hp _ _ _ [_, _, _, _, _, _, _] := H
 refine w_end (q_then ?_)
 obtain ⟨o28, hj, h'⟩ := bind_some h
 clear h
 refine c_cut (fun e a w => e = .normal ∧ ∃ (ρ : Nat → Value) (σ : St) (aj1 : Option Addr) (cj2 : Nat) (aj3 : Option Addr) (cj4 : Nat) (aj5 : Option Addr) (cj6 : Nat), a = fr 28 (updL ρ [(0, (pt Du Dv)), (2, (pt b1 0)), (3, (pt b19 0))]) ∧ w = σ.w ∧ Hp S0 σ0 σ [Ch.bx Dt Du Dv [(Sl aj1 o28.1.1 cj2), (I o28.1.2)] Dw Dx, Ch.ro 0 (Sl aj1 o28.1.1 cj2) o28.1.1, Ch.bx n0 b19 0 [(Sl aj3 o28.2.1 cj4), (Sl aj5 o28.2.2 cj6)] [] [], Ch.own n0 n0 (Sl aj3 o28.2.1 cj4) o28.2.1, Ch.own n0 n0 (Sl aj5 o28.2.2 cj6) o28.2.2, Ch.bx n0 b1 0 [(.slice none 0 0), (.slice none 0 0)] [] []]) ?_ ?_
 ·clear h'
  rename _ = some o28 => h
  refine c_blk (c_seq (rg (st (v := (B (r22.1 == 0))) (rv_eql (a := r22.1) (b := 0) rfl rfl) (sa (B (r22.1 == 0)) rfl (w_end (q_then ?_))))))
  refine cd_cond (r22.1 == 0) rfl (fun hb29 => ?_) (fun hb29 => ?_)
  ·replace h := bif_t hb29 h
   refine rg (st (v := (pt b19 0)) (rv_fieldAddr (off := 0) (ft := 37) Tryz.underlying47 rfl ti37 rfl rfl) ?_)
   have hc30 := H.cell (u := (Sl a6 r3.1 c7)) (o' := 0) 2 0 rfl rfl rfl
   refine st (v := (Sl a6 r3.1 c7)) (rv_load1 Tryz.underlying37 rfl rfl hc30) ?_
   revert h; refine br fun xs31 hx32 h => ?_
   obtain ⟨a33, c34, hs35, -⟩ := (H.own 5 rfl).slice hx32
   refine st (v := (Sl a33 xs31 c34)) (rv_slice_l Tryz.underlying37 ti24 hs35 rfl rfl) (st (v := (pt b19 0)) (rv_fieldAddr (off := 0) (ft := 37) Tryz.underlying47 rfl ti37 rfl rfl) ?_)
   have hv37 := (H.own 5 rfl).view hx32 hs35
   replace H := (H.front (i := 5) rfl).turn (d := Ch.own n0 n0 (Sl a33 xs31 c34) xs31) (fun _ => hv37.1) hv37.2; clear hv37
   refine st_exS (ex_store_box (k := 0) (cs := [(Sl a6 r3.1 c7), (Sl a14 r11.1 c15)]) (vs := [(Sl a33 xs31 c34)]) (cs' := [(Sl a33 xs31 c34), (Sl a14 r11.1 c15)]) H (i := 3) rfl ti37 rfl rfl rfl rfl rfl (Nat.le_of_ble_eq_true rfl) (by simp [plain]) rfl) wn ?_
   rintro σ38 ⟨H, -⟩
   refine w_end (q_blk ?_)
   obtain rfl := sj h
   exact ⟨rfl, _, σ38, a25, c26, a33, c34, a14, c15, fr_join ⟨rfl, rfl, rfl, trivial⟩, rfl, H.sel' [2, 3, 0, 1, 4, 6] rfl rfl⟩
  ·replace h := bif_f hb29 h
   refine c_seq (rg (st (v := (B (r22.1 == 1))) (rv_eql (a := r22.1) (b := 1) rfl rfl) (sa (B (r22.1 == 1)) rfl (w_end (q_then ?_)))))
   refine cd_cond (r22.1 == 1) rfl (fun hb39 => ?_) (fun hb39 => ?_)
   ·replace h := bif_t hb39 h
    have hc40 := H.cell (u := (Sl a14 r11.1 c15)) (o' := 1) 2 1 rfl rfl rfl
    revert h; refine br fun r41 hx42 h => ?_
    have hc43 := c_spec_reader_pick (Dt := Dt) (Du := Du) (Dv := Dv) (Dw := Dw) (Dx := Dx) (Gh := a25) (Gi := c26) hx42
    revert h; refine br fun r47 hx48 h => ?_
    have hc49 := fun (a44 : Option Addr) (c45 : Nat) (b46 : Nat) => c_spec_reader_spoil (Dt := Dt) (Du := Du) (Dv := Dv) (Dw := Dw) (Dx := Dx) (Gh := a44) (Gi := c45) (Gc := (some ⟨b46, 0, none⟩)) (Gd := 2) hx48
    have Hs := H
    refine rg2 (σ := σ27) (Nm := (Option Addr) × (Nat) × (Nat) × (Option Addr) × (Nat) × (Option Addr) × (Nat)) 7 [3, 5, 6] [[false, false, false], [true, false, false], [false, true, false], [true, true, false], [true, true, true]] [[(0, 0), (1, 1), (2, 2), (3, 3), (4, 4)], [(0, 0), (1, 1), (2, 2), (3, 3), (4, 4)], [(0, 0), (2, 2)], [(0, 1), (2, 3)], [(0, 0), (1, 1), (2, 2), (3, 3)], [(0, 2), (1, 3)], [(3, 4)]] 4 [fun ((a44, c45, b46, a50, c51, a52, c53) : (Option Addr) × (Nat) × (Nat) × (Option Addr) × (Nat) × (Option Addr) × (Nat)) => fun σm => Hp S0 σ0 σm [Ch.bx Dt Du Dv [(Sl a25 r22.2.1 c26), (I r22.2.2)] Dw Dx, Ch.ro 0 (Sl a25 r22.2.1 c26) r22.2.1, Ch.bx n0 b19 0 [(Sl a6 r3.1 c7), (Sl a14 r11.1 c15)] [] [], Ch.own n0 n0 (Sl a14 r11.1 c15) r11.1, Ch.ro 0 (Sl a16 r11.2.1 c17) r11.2.1, Ch.own n0 n0 (Sl a6 r3.1 c7) r3.1, Ch.bx n0 b1 0 [(.slice none 0 0), (.slice none 0 0)] [] []] ∧ Md (cov []) σ27 σm, fun ((a44, c45, b46, a50, c51, a52, c53) : (Option Addr) × (Nat) × (Nat) × (Option Addr) × (Nat) × (Option Addr) × (Nat)) => fun σm => Hp S0 σ0 σm [Ch.bx Dt Du Dv [(Sl a44 r41.2.1 c45), (I r41.2.2)] Dw Dx, Ch.ro 0 (Sl a44 r41.2.1 c45) r41.2.1, Ch.ro 0 (Sl a25 r22.2.1 c26) r22.2.1, Ch.bx n0 b19 0 [(Sl a6 r3.1 c7), (Sl a14 r11.1 c15)] [] [], Ch.own n0 n0 (Sl a14 r11.1 c15) r11.1, Ch.ro 0 (Sl a16 r11.2.1 c17) r11.2.1, Ch.own n0 n0 (Sl a6 r3.1 c7) r3.1, Ch.bx n0 b1 0 [(.slice none 0 0), (.slice none 0 0)] [] []] ∧ Md (fun i => (cov []) i ∨ (cov [Ch.bx Dt Du Dv [(Sl a25 r22.2.1 c26), (I r22.2.2)] Dw Dx, Ch.ro 0 (Sl a25 r22.2.1 c26) r22.2.1]) i) σ27 σm, fun ((a44, c45, b46, a50, c51, a52, c53) : (Option Addr) × (Nat) × (Nat) × (Option Addr) × (Nat) × (Option Addr) × (Nat)) => fun σm => Hp S0 σ0 σm [Ch.ro 0 (Sl (some ⟨b46, 0, none⟩) ([1, 2] : List Int) 2) ([1, 2] : List Int), Ch.bx Dt Du Dv [(Sl a25 r22.2.1 c26), (I r22.2.2)] Dw Dx, Ch.ro 0 (Sl a25 r22.2.1 c26) r22.2.1, Ch.bx n0 b19 0 [(Sl a6 r3.1 c7), (Sl a14 r11.1 c15)] [] [], Ch.own n0 n0 (Sl a14 r11.1 c15) r11.1, Ch.ro 0 (Sl a16 r11.2.1 c17) r11.2.1, Ch.own n0 n0 (Sl a6 r3.1 c7) r3.1, Ch.bx n0 b1 0 [(.slice none 0 0), (.slice none 0 0)] [] []] ∧ Md (fun i => (cov []) i ∨ (fun i => (cov []) i ∨ (fun b => blk (Sl (some ⟨b46, 0, none⟩) ([1, 2] : List Int) 2) = some b) i) i) σ27 σm, fun ((a44, c45, b46, a50, c51, a52, c53) : (Option Addr) × (Nat) × (Nat) × (Option Addr) × (Nat) × (Option Addr) × (Nat)) => fun σm => Hp S0 σ0 σm [Ch.ro 0 (Sl (some ⟨b46, 0, none⟩) ([1, 2] : List Int) 2) ([1, 2] : List Int), Ch.bx Dt Du Dv [(Sl a44 r41.2.1 c45), (I r41.2.2)] Dw Dx, Ch.ro 0 (Sl a44 r41.2.1 c45) r41.2.1, Ch.ro 0 (Sl a25 r22.2.1 c26) r22.2.1, Ch.bx n0 b19 0 [(Sl a6 r3.1 c7), (Sl a14 r11.1 c15)] [] [], Ch.own n0 n0 (Sl a14 r11.1 c15) r11.1, Ch.ro 0 (Sl a16 r11.2.1 c17) r11.2.1, Ch.own n0 n0 (Sl a6 r3.1 c7) r3.1, Ch.bx n0 b1 0 [(.slice none 0 0), (.slice none 0 0)] [] []] ∧ Md (fun i => (fun i => (cov []) i ∨ (cov [Ch.bx Dt Du Dv [(Sl a25 r22.2.1 c26), (I r22.2.2)] Dw Dx, Ch.ro 0 (Sl a25 r22.2.1 c26) r22.2.1]) i) i ∨ (fun i => (cov []) i ∨ (fun b => blk (Sl (some ⟨b46, 0, none⟩) ([1, 2] : List Int) 2) = some b) i) i) σ27 σm, fun ((a44, c45, b46, a50, c51, a52, c53) : (Option Addr) × (Nat) × (Nat) × (Option Addr) × (Nat) × (Option Addr) × (Nat)) => fun σm => Hp S0 σ0 σm [Ch.own n0 n0 (Sl a50 r47.1 c51) r47.1, Ch.bx Dt Du Dv [(Sl a52 r47.2.1 c53), (I r47.2.2)] Dw Dx, Ch.ro 0 (Sl a52 r47.2.1 c53) r47.2.1, Ch.ro 0 (Sl (some ⟨b46, 0, none⟩) ([1, 2] : List Int) 2) ([1, 2] : List Int), Ch.ro 0 (Sl a44 r41.2.1 c45) r41.2.1, Ch.ro 0 (Sl a25 r22.2.1 c26) r22.2.1, Ch.bx n0 b19 0 [(Sl a6 r3.1 c7), (Sl a14 r11.1 c15)] [] [], Ch.own n0 n0 (Sl a14 r11.1 c15) r11.1, Ch.ro 0 (Sl a16 r11.2.1 c17) r11.2.1, Ch.own n0 n0 (Sl a6 r3.1 c7) r3.1, Ch.bx n0 b1 0 [(.slice none 0 0), (.slice none 0 0)] [] []] ∧ Md (fun i => (fun i => (fun i => (cov []) i ∨ (cov [Ch.bx Dt Du Dv [(Sl a25 r22.2.1 c26), (I r22.2.2)] Dw Dx, Ch.ro 0 (Sl a25 r22.2.1 c26) r22.2.1]) i) i ∨ (fun i => (cov []) i ∨ (fun b => blk (Sl (some ⟨b46, 0, none⟩) ([1, 2] : List Int) 2) = some b) i) i) i ∨ (cov [Ch.bx Dt Du Dv [(Sl a44 r41.2.1 c45), (I r41.2.2)] Dw Dx, Ch.ro 0 (Sl a44 r41.2.1 c45) r41.2.1, Ch.ro 0 (Sl (some ⟨b46, 0, none⟩) ([1, 2] : List Int) 2) ([1, 2] : List Int)]) i) σ27 σm] [fun ((a44, c45, b46, a50, c51, a52, c53) : (Option Addr) × (Nat) × (Nat) × (Option Addr) × (Nat) × (Option Addr) × (Nat)) => (pt b19 1), fun ((a44, c45, b46, a50, c51, a52, c53) : (Option Addr) × (Nat) × (Nat) × (Option Addr) × (Nat) × (Option Addr) × (Nat)) => (Sl a14 r11.1 c15), fun ((a44, c45, b46, a50, c51, a52, c53) : (Option Addr) × (Nat) × (Nat) × (Option Addr) × (Nat) × (Option Addr) × (Nat)) => (pt Du Dv), fun ((a44, c45, b46, a50, c51, a52, c53) : (Option Addr) × (Nat) × (Nat) × (Option Addr) × (Nat) × (Option Addr) × (Nat)) => (I r41.1), fun ((a44, c45, b46, a50, c51, a52, c53) : (Option Addr) × (Nat) × (Nat) × (Option Addr) × (Nat) × (Option Addr) × (Nat)) => (pt Du Dv), fun ((a44, c45, b46, a50, c51, a52, c53) : (Option Addr) × (Nat) × (Nat) × (Option Addr) × (Nat) × (Option Addr) × (Nat)) => (Sl (some ⟨b46, 0, none⟩) ([1, 2] : List Int) 2), fun ((a44, c45, b46, a50, c51, a52, c53) : (Option Addr) × (Nat) × (Nat) × (Option Addr) × (Nat) × (Option Addr) × (Nat)) => (Sl a50 r47.1 c51)] (none, 0, 0, none, 0, none, 0) (by kernel_rfl) (by kernel_rfl) ?_ ?_ ?_
    ·intro σm m0
     exact ⟨H.grow (m0.mono fun _ h => h.elim), m0⟩
    ·refine ac rfl (by
       intro k; rintro ⟨a44, c45, b46, a50, c51, a52, c53⟩ ρ σm hJ hoff hdep
       have e3 := look_off (N := 28) (hoff 3 rfl) rfl
       exact dp_v (v := (pt b19 1)) wn (rv_fieldAddr (off := 1) (ft := 37) Tryz.underlying47 rfl ti37 rfl e3) rfl hJ) ?_
     refine all_cons (by
       refine ⟨?_, ?_⟩
       ·rintro ⟨a44, c45, b46, a50, c51, a52, c53⟩ ρ σm hJ hoff hdep
        have e19 := hdep 0 rfl rfl 19 rfl
        obtain ⟨H, m⟩ := id hJ
        have hc40 := H.cell (u := (Sl a14 r11.1 c15)) (o' := 1) 2 1 rfl rfl rfl
        exact dp_v (v := (Sl a14 r11.1 c15)) wn (rv_load1 Tryz.underlying37 rfl e19 hc40) rfl hJ
       refine ⟨?_, ?_⟩
       ·rintro ⟨a44, c45, b46, a50, c51, a52, c53⟩ ρ σm hJ hoff hdep
        have e19 := hdep 0 rfl rfl 19 rfl
        obtain ⟨H, m⟩ := id hJ
        have hc40 := H.cell (u := (Sl a14 r11.1 c15)) (o' := 1) 3 1 rfl rfl rfl
        exact dp_v (v := (Sl a14 r11.1 c15)) wn (rv_load1 Tryz.underlying37 rfl e19 hc40) rfl hJ
       refine ⟨?_, ?_⟩
       ·rintro ⟨a44, c45, b46, a50, c51, a52, c53⟩ ρ σm hJ hoff hdep
        have e19 := hdep 0 rfl rfl 19 rfl
        obtain ⟨H, m⟩ := id hJ
        have hc40 := H.cell (u := (Sl a14 r11.1 c15)) (o' := 1) 3 1 rfl rfl rfl
        exact dp_v (v := (Sl a14 r11.1 c15)) wn (rv_load1 Tryz.underlying37 rfl e19 hc40) rfl hJ
       refine ⟨?_, ?_⟩
       ·rintro ⟨a44, c45, b46, a50, c51, a52, c53⟩ ρ σm hJ hoff hdep
        have e19 := hdep 0 rfl rfl 19 rfl
        obtain ⟨H, m⟩ := id hJ
        have hc40 := H.cell (u := (Sl a14 r11.1 c15)) (o' := 1) 4 1 rfl rfl rfl
        exact dp_v (v := (Sl a14 r11.1 c15)) wn (rv_load1 Tryz.underlying37 rfl e19 hc40) rfl hJ
       refine ⟨?_, ?_⟩
       ·rintro ⟨a44, c45, b46, a50, c51, a52, c53⟩ ρ σm hJ hoff hdep
        have e19 := hdep 0 rfl rfl 19 rfl
        obtain ⟨H, m⟩ := id hJ
        have hc40 := H.cell (u := (Sl a14 r11.1 c15)) (o' := 1) 6 1 rfl rfl rfl
        exact dp_v (v := (Sl a14 r11.1 c15)) wn (rv_load1 Tryz.underlying37 rfl e19 hc40) rfl hJ
       trivial) ?_
     refine ac rfl (by
       intro k; rintro ⟨a44, c45, b46, a50, c51, a52, c53⟩ ρ σm hJ hoff hdep
       have e0 := look_off (N := 28) (hoff 0 rfl) rfl
       exact dp_v (v := (pt Du Dv)) wn (rv_move e0) rfl hJ) ?_
     refine all_cons (by
       refine ⟨?_, ?_⟩
       ·rintro ⟨a44, c45, b46, a50, c51, a52, c53⟩ ρ σm hJ hoff hdep
        have e21 : look 28 ρ 21 = (pt Du Dv) := hdep 2 rfl rfl 21 rfl
        obtain ⟨H, m⟩ := id hJ
        refine dp_cx wn (cx_call hc43 (ent_f hc43.fn (by show [look 28 ρ 21, (I 4)] = _; rw [e21])) hn0 (H.sel' [0, 1, 1, 2, 3, 4, 5, 6] rfl rfl : Hp S0 σ0 _ ([_, _] ++ _))) ?_
        rintro _ σq ⟨_, ⟨a44x, c45x, rfl, rfl⟩, H2, m2⟩
        exact ⟨_, (a44x, c45x, b46, a50, c51, a52, c53), rfl, rfl, ⟨H2.sel' [0, 1, 2, 3, 4, 5, 6, 7] rfl rfl, m.comp m2⟩, stab [0, 1, 2, 4, 5] (by kernel_rfl) ⟨rfl, rfl, rfl, rfl, rfl, trivial⟩⟩
       refine ⟨?_, ?_⟩
       ·rintro ⟨a44, c45, b46, a50, c51, a52, c53⟩ ρ σm hJ hoff hdep
        have e21 : look 28 ρ 21 = (pt Du Dv) := hdep 2 rfl rfl 21 rfl
        obtain ⟨H, m⟩ := id hJ
        refine dp_cx wn (cx_call hc43 (ent_f hc43.fn (by show [look 28 ρ 21, (I 4)] = _; rw [e21])) hn0 (H.sel' [1, 2, 0, 2, 3, 4, 5, 6, 7] rfl rfl : Hp S0 σ0 _ ([_, _] ++ _))) ?_
        rintro _ σq ⟨_, ⟨a44x, c45x, rfl, rfl⟩, H2, m2⟩
        exact ⟨_, (a44x, c45x, b46, a50, c51, a52, c53), rfl, rfl, ⟨H2.sel' [2, 0, 1, 3, 4, 5, 6, 7, 8] rfl rfl, (m.comp m2).mono (fun i h => Or.elim h (fun h => Or.elim h (fun h => (Or.inl (Or.inl h))) (fun h => (Or.inr h))) (fun h => (Or.inl (Or.inr h))))⟩, stab [0, 1, 2, 4, 5] (by kernel_rfl) ⟨rfl, rfl, rfl, rfl, rfl, trivial⟩⟩
       trivial) ?_
     refine ac rfl (by
       intro k; rintro ⟨a44, c45, b46, a50, c51, a52, c53⟩ ρ σm hJ hoff hdep
       have e0 := look_off (N := 28) (hoff 0 rfl) rfl
       exact dp_v (v := (pt Du Dv)) wn (rv_move e0) rfl hJ) ?_
     refine all_cons (by
       refine ⟨?_, ?_⟩
       ·rintro ⟨a44, c45, b46, a50, c51, a52, c53⟩ ρ σm hJ hoff hdep
        obtain ⟨H, m⟩ := id hJ
        refine dp_ex wn (ex_buildSlice (el := 0) (xs := ([1, 2] : List Int)) (ps := [(0, (I 1)), (1, (I 2))]) (cs := [(I 1), (I 2)]) H hn0 Tryz.underlying24 ti3 rfl rfl (by kernel_rfl) (.cons (c := [(I 1)]) rfl (.cons (c := [(I 2)]) rfl (.nil))) rfl) ?_
        rintro _ σq ⟨b46x, rfl, H2, m2⟩
        obtain ⟨σr0, hwr0, H2, mr0⟩ := H2.pub 0 rfl (Nat.zero_le _)
        exact ⟨_, (a44, c45, b46x, a50, c51, a52, c53), hwr0, rfl, ⟨H2.sel' [0, 1, 2, 3, 4, 5, 6, 7] rfl rfl, m.comp (m2.comp mr0)⟩, stab [0, 1, 2, 3, 4] (by kernel_rfl) ⟨rfl, rfl, rfl, rfl, rfl, trivial⟩⟩
       refine ⟨?_, ?_⟩
       ·rintro ⟨a44, c45, b46, a50, c51, a52, c53⟩ ρ σm hJ hoff hdep
        obtain ⟨H, m⟩ := id hJ
        refine dp_ex wn (ex_buildSlice (el := 0) (xs := ([1, 2] : List Int)) (ps := [(0, (I 1)), (1, (I 2))]) (cs := [(I 1), (I 2)]) H hn0 Tryz.underlying24 ti3 rfl rfl (by kernel_rfl) (.cons (c := [(I 1)]) rfl (.cons (c := [(I 2)]) rfl (.nil))) rfl) ?_
        rintro _ σq ⟨b46x, rfl, H2, m2⟩
        obtain ⟨σr0, hwr0, H2, mr0⟩ := H2.pub 0 rfl (Nat.zero_le _)
        exact ⟨_, (a44, c45, b46x, a50, c51, a52, c53), hwr0, rfl, ⟨H2.sel' [0, 1, 2, 3, 4, 5, 6, 7, 8] rfl rfl, m.comp (m2.comp mr0)⟩, stab [0, 1, 2, 3, 4] (by kernel_rfl) ⟨rfl, rfl, rfl, rfl, rfl, trivial⟩⟩
       trivial) ?_
     refine all_cons (by
       refine ⟨?_, ?_⟩
       ·rintro ⟨a44, c45, b46, a50, c51, a52, c53⟩ ρ σm hJ hoff hdep
        have e23 : look 28 ρ 23 = (pt Du Dv) := hdep 4 rfl rfl 23 rfl
        have e24 : look 28 ρ 24 = (Sl (some ⟨b46, 0, none⟩) ([1, 2] : List Int) 2) := hdep 5 rfl rfl 24 rfl
        obtain ⟨H, m⟩ := id hJ
        refine dp_cx wn (cx_call (hc49 a44 c45 b46) (ent_f (hc49 a44 c45 b46).fn (by show [look 28 ρ 23, look 28 ρ 24, (I 101)] = _; rw [e23, e24])) hn0 (H.sel' [1, 2, 0, 0, 2, 3, 4, 5, 6, 7, 8] rfl rfl : Hp S0 σ0 _ ([_, _, _] ++ _))) ?_
        rintro _ σq ⟨_, ⟨a50x, c51x, a52x, c53x, rfl, rfl⟩, H2, m2⟩
        exact ⟨_, (a44, c45, b46, a50x, c51x, a52x, c53x), rfl, rfl, ⟨H2.sel' [0, 1, 2, 3, 4, 5, 6, 7, 8, 9, 10] rfl rfl, m.comp m2⟩, stab [0, 1, 2, 3, 4, 5] (by kernel_rfl) ⟨rfl, rfl, rfl, rfl, rfl, rfl, trivial⟩⟩
       trivial) ?_
     exact all_nil
    ·rintro ⟨a44, c45, b46, a50, c51, a52, c53⟩ ρ σ54 hJ hoff hrel
     have e0 := look_off (N := 28) (hoff 0 rfl) rfl
     have e2 := look_off (N := 28) (hoff 2 rfl) rfl
     have e3 := look_off (N := 28) (hoff 3 rfl) rfl
     have e20 := hrel 1 rfl 20 rfl
     have e22 := hrel 3 rfl 22 rfl
     have e25 := hrel 6 rfl 25 rfl
     obtain ⟨H, -⟩ := (show Hp S0 σ0 σ54 [Ch.own n0 n0 (Sl a50 r47.1 c51) r47.1, Ch.bx Dt Du Dv [(Sl a52 r47.2.1 c53), (I r47.2.2)] Dw Dx, Ch.ro 0 (Sl a52 r47.2.1 c53) r47.2.1, Ch.ro 0 (Sl (some ⟨b46, 0, none⟩) ([1, 2] : List Int) 2) ([1, 2] : List Int), Ch.ro 0 (Sl a44 r41.2.1 c45) r41.2.1, Ch.ro 0 (Sl a25 r22.2.1 c26) r22.2.1, Ch.bx n0 b19 0 [(Sl a6 r3.1 c7), (Sl a14 r11.1 c15)] [] [], Ch.own n0 n0 (Sl a14 r11.1 c15) r11.1, Ch.ro 0 (Sl a16 r11.2.1 c17) r11.2.1, Ch.own n0 n0 (Sl a6 r3.1 c7) r3.1, Ch.bx n0 b1 0 [(.slice none 0 0), (.slice none 0 0)] [] []] ∧ Md (fun i => (fun i => (fun i => (cov []) i ∨ (cov [Ch.bx Dt Du Dv [(Sl a25 r22.2.1 c26), (I r22.2.2)] Dw Dx, Ch.ro 0 (Sl a25 r22.2.1 c26) r22.2.1]) i) i ∨ (fun i => (cov []) i ∨ (fun b => blk (Sl (some ⟨b46, 0, none⟩) ([1, 2] : List Int) 2) = some b) i) i) i ∨ (cov [Ch.bx Dt Du Dv [(Sl a44 r41.2.1 c45), (I r41.2.2)] Dw Dx, Ch.ro 0 (Sl a44 r41.2.1 c45) r41.2.1, Ch.ro 0 (Sl (some ⟨b46, 0, none⟩) ([1, 2] : List Int) 2) ([1, 2] : List Int)]) i) σ27 σ54 from hJ)
     clear hJ Hs
     rw [fr_lookL (L := [(0, (pt Du Dv)), (2, (pt b1 0)), (3, (pt b19 0)), (20, (Sl a14 r11.1 c15)), (22, (I r41.1)), (25, (Sl a50 r47.1 c51))]) ⟨e0, e2, e3, e20, e22, e25, trivial⟩]
     clear hoff hrel e0 e2 e3 e20 e22 e25
     revert h; refine br fun x55 hx56 h => ?_
     obtain ⟨b58, o59, hi57, -⟩ := (H.own 7 rfl).ix hx56
     refine st (v := (pt b58 o59)) (rv_ix Tryz.underlying37 ti24 rfl rfl hi57) ?_
     obtain ⟨σ60, hw61, H, -⟩ := H.pub 0 rfl (Nat.le_refl _)
     rw [← hw61]; clear hw61
     refine st_exS (ex_store_own (e' := r47.1) (vs := [(Sl a50 r47.1 c51)]) (k := 0) H (i := 7) rfl ti24 hx56 hi57 rfl rfl rfl rfl rfl (Nat.le_of_ble_eq_true rfl) (by simp [plain]) (by rintro _ ⟨_, rfl, hR64⟩; exact ⟨_, rfl, (H.ro 0 rfl)⟩)) wn ?_
     rintro σ65 ⟨H, -⟩
     have hsl : (Sl a14 r11.1 c15) = (Sl a14 (r11.1.set r41.1.toNat r47.1) c15) := sl_len List.length_set.symm
     rw [hsl]; rw [hsl] at H; clear hsl
     replace H : Hp S0 σ0 σ65 [Ch.own n0 n0 (Sl a14 (r11.1.set r41.1.toNat r47.1) c15) (r11.1.set r41.1.toNat r47.1), Ch.bx Dt Du Dv [(Sl a52 r47.2.1 c53), (I r47.2.2)] Dw Dx, Ch.ro 0 (Sl a52 r47.2.1 c53) r47.2.1, Ch.bx n0 b19 0 [(Sl a6 r3.1 c7), (Sl a14 (r11.1.set r41.1.toNat r47.1) c15)] [] [], Ch.own n0 n0 (Sl a6 r3.1 c7) r3.1, Ch.bx n0 b1 0 [(.slice none 0 0), (.slice none 0 0)] [] []] := H.sel' [0, 2, 3, 7, 9, 10] rfl rfl
     refine w_end (q_blk ?_)
     obtain rfl := sj h
     exact ⟨rfl, _, σ65, a52, c53, a6, c7, a14, c15, fr_join ⟨rfl, rfl, rfl, trivial⟩, rfl, H.sel' [1, 2, 3, 4, 0, 5] rfl rfl⟩
   ·replace h := bif_f hb39 h
    refine c_skip (q_blk ?_)
    obtain rfl := sj h
    exact ⟨rfl, _, σ27, a25, c26, a6, c7, a14, c15, fr_join ⟨rfl, rfl, rfl, trivial⟩, rfl, H.sel' [0, 1, 2, 5, 3, 6] rfl rfl⟩
 ·clear hj
  have h := h'
  clear h' H
  rintro e a w ⟨rfl, ρ, σ66, a67, c68, a69, c70, a71, c72, rfl, rfl, H⟩
  refine q_then (c_seq (rg ?_))
  have hc73 := H.cells 2 rfl
  refine st (v := (.agg #[(Sl a69 o28.2.1 c70), (Sl a71 o28.2.2 c72)])) (rv_load (cs := [(Sl a69 o28.2.1 c70), (Sl a71 o28.2.2 c72)]) Tryz.underlying47 rfl ti47 rfl rfl hc73) ?_
  refine st_exS (ex_store_box (k := 0) (cs := [(.slice none 0 0), (.slice none 0 0)]) (vs := [(Sl a69 o28.2.1 c70), (Sl a71 o28.2.2 c72)]) (cs' := [(Sl a69 o28.2.1 c70), (Sl a71 o28.2.2 c72)]) H (i := 5) rfl ti47 rfl rfl rfl rfl rfl (Nat.le_of_ble_eq_true rfl) (by simp [plain]) rfl) wn ?_
  rintro σ74 ⟨H, -⟩
  refine w_end (q_then (c_ret ?_))
  obtain rfl := sj h
  exact fin_ret (v := (.agg #[(Sl a69 o28.2.1 c70), (Sl a71 o28.2.2 c72)])) (results_ok Tryz.results65 (res_cell rfl (run_cellRes (cs := [(Sl a69 o28.2.1 c70), (Sl a71 o28.2.2 c72)]) Tryz.underlying47 rfl ti47 rfl (H.cells 0 rfl)) res_nil) rfl) ⟨a69, c70, a71, c72, a67, c68, rfl, rfl⟩ (H.sel' [4, 5, 1, 2] rfl rfl)

theorem c_spec_DrawRerankNearest {Ge : List UInt8} {Gf : Option Addr} {Gg : Nat} {r : ((List (List Int)) × (List (List Int))) × (List (Int × (List Int) × Int)) × (List Int) × Int × Int} (h : M.spec_DrawRerankNearest Ge = some r) :
    Cal2 Tryz.prog 28 [(Sl Gf Ge Gg)] [Ch.ro 0 (Sl Gf Ge Gg) Ge] (fun n0 v L => ∃ (az1 : Option Addr), ∃ (cz2 : Nat), ∃ (az3 : Option Addr), ∃ (cz4 : Nat), ∃ (az5 : Option Addr), ∃ (cz6 : Nat), ∃ (az7 : Option Addr), ∃ (cz8 : Nat), v = (.tuple #[(.agg #[(Sl az1 r.1.1 cz2), (Sl az3 r.1.2 cz4)]), (Sl az5 r.2.1 cz6), (Sl az7 r.2.2.1 cz8), (I r.2.2.2.1), (I r.2.2.2.2)]) ∧ L = [Ch.own n0 n0 (Sl az1 r.1.1 cz2) r.1.1, Ch.own n0 n0 (Sl az3 r.1.2 cz4) r.1.2, Ch.own n0 n0 (Sl az5 r.2.1 cz6) r.2.1, Ch.own n0 n0 (Sl az7 r.2.2.1 cz8) r.2.2.1]) := by
 refine cal2 (n := 28) Tryz.func28 rfl rfl rfl rfl ?_
 intro S0 σ0 n0 hn0 H
 unfold M.spec_DrawRerankNearest at h
 refine c_seq (rg (st_ex (ex_alloc (cs := [(.slice none 0 0), (.slice none 0 0)]) H hn0 ti47 rfl) wn ?_))
 rintro _ σ2 ⟨b1, rfl, H, -⟩
 refine sa (.slice none 0 0) rfl (sa (.slice none 0 0) rfl (sa (I 0) rfl (sa (I 0) rfl (w_end (q_then (c_seq (rg (sm (Sl Gf Ge Gg) rfl ?_))))))))
 revert h; refine br fun r3 hx4 h => ?_
 have hc5 := c_spec_newReader (Gf := Gf) (Gg := Gg) hx4
 refine st_call (cx_call hc5 (ent_f hc5.fn rfl) hn0 (H.sel' [1, 0, 1] rfl rfl : Hp S0 σ0 _ ([_] ++ _))) wn ?_
 rintro _ σ9 ⟨_, ⟨b6, a7, c8, rfl, rfl⟩, H, -⟩
 replace H : Hp _ _ _ [_, _, _, _] := H
 refine sa (pt b6 0) rfl (w_end (q_then (c_seq (rg (sm (pt b6 0) rfl ?_)))))
 revert h; refine br fun r10 hx11 h => ?_
 have hc12 := c_spec_anyBook (Dt := n0) (Du := b6) (Dv := 0) (Dw := []) (Dx := []) (Gh := a7) (Gi := c8) hx11
 refine st_call (cx_call hc12 (ent_f hc12.fn rfl) hn0 (H.sel' [0, 1, 1, 2, 3] rfl rfl : Hp S0 σ0 _ ([_, _] ++ _))) wn ?_
 rintro _ σ19 ⟨_, ⟨a13, c14, a15, c16, a17, c18, rfl, rfl⟩, H, -⟩
 replace H : Hp _ _ _ [_, _, _, _, _, _, _] := H
 refine st_ex (ex_alloc (cs := [(.slice none 0 0), (.slice none 0 0)]) H hn0 ti47 rfl) wn ?_
 rintro _ σ21 ⟨b20, rfl, H, -⟩
 replace H : Hp S0 σ0 σ21 [Ch.bx n0 b20 0 [(.slice none 0 0), (.slice none 0 0)] [] [], Ch.own n0 n0 (Sl a13 r10.1.1 c14) r10.1.1, Ch.own n0 n0 (Sl a15 r10.1.2 c16) r10.1.2, Ch.bx n0 b6 0 [(Sl a17 r10.2.1 c18), (I r10.2.2)] [] [], Ch.ro 0 (Sl a17 r10.2.1 c18) r10.2.1, Ch.bx n0 b1 0 [(.slice none 0 0), (.slice none 0 0)] [] []] := H.sel' [0, 1, 2, 3, 4, 6] rfl rfl
 refine st_exS (ex_store_box (k := 0) (cs := [(.slice none 0 0), (.slice none 0 0)]) (vs := [(Sl a13 r10.1.1 c14), (Sl a15 r10.1.2 c16)]) (cs' := [(Sl a13 r10.1.1 c14), (Sl a15 r10.1.2 c16)]) H (i := 0) rfl ti47 rfl rfl rfl rfl rfl (Nat.le_of_ble_eq_true rfl) (by simp [plain]) rfl) wn ?_
 rintro σ22 ⟨H, -⟩
 refine w_end (q_then (c_seq (rg (sm (pt b6 0) rfl ?_))))
 revert h; refine br fun r23 hx24 h => ?_
 have hc25 := c_spec_anyStore (Dt := n0) (Du := b6) (Dv := 0) (Dw := []) (Dx := []) (Gh := a17) (Gi := c18) hx24
 refine st_call (cx_call hc25 (ent_f hc25.fn rfl) hn0 (H.sel' [3, 4, 0, 1, 2, 4, 5] rfl rfl : Hp S0 σ0 _ ([_, _] ++ _))) wn ?_
 rintro _ σ30 ⟨_, ⟨a26, c27, a28, c29, rfl, rfl⟩, H, -⟩
 replace H : Hp _ _ _ [_, _, _, _, _, _, _, _] := H
 replace H : Hp S0 σ0 σ30 [Ch.own n0 n0 (Sl a26 r23.1 c27) r23.1, Ch.bx n0 b6 0 [(Sl a28 r23.2.1 c29), (I r23.2.2)] [] [], Ch.ro 0 (Sl a28 r23.2.1 c29) r23.2.1, Ch.bx n0 b20 0 [(Sl a13 r10.1.1 c14), (Sl a15 r10.1.2 c16)] [] [], Ch.own n0 n0 (Sl a13 r10.1.1 c14) r10.1.1, Ch.own n0 n0 (Sl a15 r10.1.2 c16) r10.1.2, Ch.bx n0 b1 0 [(.slice none 0 0), (.slice none 0 0)] [] []] := H.sel' [0, 1, 2, 3, 4, 5, 7] rfl rfl
 refine sa (Sl a26 r23.1 c27) rfl (w_end (q_then (c_seq (rg (sm (pt b6 0) rfl ?_)))))
 revert h; refine br fun r31 hx32 h => ?_
 have hc33 := c_spec_anyVector (Dt := n0) (Du := b6) (Dv := 0) (Dw := []) (Dx := []) (Gh := a28) (Gi := c29) hx32
 refine st_call (cx_call hc33 (ent_f hc33.fn rfl) hn0 (H.sel' [1, 2, 0, 2, 3, 4, 5, 6] rfl rfl : Hp S0 σ0 _ ([_, _] ++ _))) wn ?_
 rintro _ σ38 ⟨_, ⟨a34, c35, a36, c37, rfl, rfl⟩, H, -⟩
 replace H : Hp _ _ _ [_, _, _, _, _, _, _, _, _] := H
 replace H : Hp S0 σ0 σ38 [Ch.own n0 n0 (Sl a34 r31.1 c35) r31.1, Ch.bx n0 b6 0 [(Sl a36 r31.2.1 c37), (I r31.2.2)] [] [], Ch.ro 0 (Sl a36 r31.2.1 c37) r31.2.1, Ch.own n0 n0 (Sl a26 r23.1 c27) r23.1, Ch.bx n0 b20 0 [(Sl a13 r10.1.1 c14), (Sl a15 r10.1.2 c16)] [] [], Ch.own n0 n0 (Sl a13 r10.1.1 c14) r10.1.1, Ch.own n0 n0 (Sl a15 r10.1.2 c16) r10.1.2, Ch.bx n0 b1 0 [(.slice none 0 0), (.slice none 0 0)] [] []] := H.sel' [0, 1, 2, 3, 5, 6, 7, 8] rfl rfl
 refine sa (Sl a34 r31.1 c35) rfl (w_end (q_then (c_seq (rg (sm (pt b6 0) rfl ?_)))))
 revert h; refine br fun r39 hx40 h => ?_
 have hc41 := c_spec_someK (Dt := n0) (Du := b6) (Dv := 0) (Dw := []) (Dx := []) (Gh := a36) (Gi := c37) hx40
 refine st_call (cx_call hc41 (ent_f hc41.fn rfl) hn0 (H.sel' [1, 2, 0, 2, 3, 4, 5, 6, 7] rfl rfl : Hp S0 σ0 _ ([_, _] ++ _))) wn ?_
 rintro _ σ44 ⟨_, ⟨a42, c43, rfl, rfl⟩, H, -⟩
 replace H : Hp _ _ _ [_, _, _, _, _, _, _, _, _] := H
 replace H : Hp S0 σ0 σ44 [Ch.bx n0 b6 0 [(Sl a42 r39.2.1 c43), (I r39.2.2)] [] [], Ch.ro 0 (Sl a42 r39.2.1 c43) r39.2.1, Ch.own n0 n0 (Sl a34 r31.1 c35) r31.1, Ch.own n0 n0 (Sl a26 r23.1 c27) r23.1, Ch.bx n0 b20 0 [(Sl a13 r10.1.1 c14), (Sl a15 r10.1.2 c16)] [] [], Ch.own n0 n0 (Sl a13 r10.1.1 c14) r10.1.1, Ch.own n0 n0 (Sl a15 r10.1.2 c16) r10.1.2, Ch.bx n0 b1 0 [(.slice none 0 0), (.slice none 0 0)] [] []] := H.sel' [0, 1, 2, 4, 5, 6, 7, 8] rfl rfl
 refine sa (I r39.1) rfl (w_end (q_then (c_seq ?_)))
 have hc45 := H.cells 4 rfl
 revert h; refine br fun r46 hx47 h => ?_
 have hc48 := c_spec_someK (Dt := n0) (Du := b6) (Dv := 0) (Dw := []) (Dx := []) (Gh := a42) (Gi := c43) hx47
 have Hs := H
 refine rg2 (σ := σ44) (Nm := (Option Addr) × (Nat)) 9 [5, 6] [[false, false], [true, false], [true, true]] [[(0, 0), (1, 1)], [(0, 0), (1, 1), (2, 2)], [(0, 0), (1, 1), (2, 2)], [(0, 0), (1, 1), (2, 2)], [(0, 0)], [(0, 1)], [(1, 2)], [(2, 2)], [(2, 2)]] 2 [fun ((a49, c50) : (Option Addr) × (Nat)) => fun σm => Hp S0 σ0 σm [Ch.bx n0 b6 0 [(Sl a42 r39.2.1 c43), (I r39.2.2)] [] [], Ch.ro 0 (Sl a42 r39.2.1 c43) r39.2.1, Ch.own n0 n0 (Sl a34 r31.1 c35) r31.1, Ch.own n0 n0 (Sl a26 r23.1 c27) r23.1, Ch.bx n0 b20 0 [(Sl a13 r10.1.1 c14), (Sl a15 r10.1.2 c16)] [] [], Ch.own n0 n0 (Sl a13 r10.1.1 c14) r10.1.1, Ch.own n0 n0 (Sl a15 r10.1.2 c16) r10.1.2, Ch.bx n0 b1 0 [(.slice none 0 0), (.slice none 0 0)] [] []] ∧ Md (cov []) σ44 σm, fun ((a49, c50) : (Option Addr) × (Nat)) => fun σm => Hp S0 σ0 σm [Ch.bx n0 b6 0 [(Sl a49 r46.2.1 c50), (I r46.2.2)] [] [], Ch.ro 0 (Sl a49 r46.2.1 c50) r46.2.1, Ch.ro 0 (Sl a42 r39.2.1 c43) r39.2.1, Ch.own n0 n0 (Sl a34 r31.1 c35) r31.1, Ch.own n0 n0 (Sl a26 r23.1 c27) r23.1, Ch.bx n0 b20 0 [(Sl a13 r10.1.1 c14), (Sl a15 r10.1.2 c16)] [] [], Ch.own n0 n0 (Sl a13 r10.1.1 c14) r10.1.1, Ch.own n0 n0 (Sl a15 r10.1.2 c16) r10.1.2, Ch.bx n0 b1 0 [(.slice none 0 0), (.slice none 0 0)] [] []] ∧ Md (fun i => (cov []) i ∨ (cov [Ch.bx n0 b6 0 [(Sl a42 r39.2.1 c43), (I r39.2.2)] [] [], Ch.ro 0 (Sl a42 r39.2.1 c43) r39.2.1]) i) σ44 σm, fun ((a49, c50) : (Option Addr) × (Nat)) => fun σm => Hp S0 σ0 σm [Ch.bx n0 b1 0 [(Sl a13 r10.1.1 c14), (Sl a15 r10.1.2 c16)] [] [], Ch.bx n0 b6 0 [(Sl a49 r46.2.1 c50), (I r46.2.2)] [] [], Ch.ro 0 (Sl a49 r46.2.1 c50) r46.2.1, Ch.ro 0 (Sl a42 r39.2.1 c43) r39.2.1, Ch.own n0 n0 (Sl a34 r31.1 c35) r31.1, Ch.own n0 n0 (Sl a26 r23.1 c27) r23.1, Ch.bx n0 b20 0 [(Sl a13 r10.1.1 c14), (Sl a15 r10.1.2 c16)] [] [], Ch.own n0 n0 (Sl a13 r10.1.1 c14) r10.1.1, Ch.own n0 n0 (Sl a15 r10.1.2 c16) r10.1.2] ∧ Md (fun i => (fun i => (cov []) i ∨ (cov [Ch.bx n0 b6 0 [(Sl a42 r39.2.1 c43), (I r39.2.2)] [] [], Ch.ro 0 (Sl a42 r39.2.1 c43) r39.2.1]) i) i ∨ (fun i => i = b1) i) σ44 σm] [fun ((a49, c50) : (Option Addr) × (Nat)) => (.agg #[(Sl a13 r10.1.1 c14), (Sl a15 r10.1.2 c16)]), fun ((a49, c50) : (Option Addr) × (Nat)) => (Sl a26 r23.1 c27), fun ((a49, c50) : (Option Addr) × (Nat)) => (Sl a34 r31.1 c35), fun ((a49, c50) : (Option Addr) × (Nat)) => (I r39.1), fun ((a49, c50) : (Option Addr) × (Nat)) => (pt b6 0), fun ((a49, c50) : (Option Addr) × (Nat)) => (I r46.1), fun ((a49, c50) : (Option Addr) × (Nat)) => undef, fun ((a49, c50) : (Option Addr) × (Nat)) => (Sl a26 r23.1 c27), fun ((a49, c50) : (Option Addr) × (Nat)) => (Sl a34 r31.1 c35)] (none, 0) (by kernel_rfl) (by kernel_rfl) ?_ ?_ ?_
 ·intro σm m0
  exact ⟨H.grow (m0.mono fun _ h => h.elim), m0⟩
 ·refine all_cons (by
    refine ⟨?_, ?_⟩
    ·rintro ⟨a49, c50⟩ ρ σm hJ hoff hdep
     have e8 := look_off (N := 28) (hoff 8 rfl) rfl
     obtain ⟨H, m⟩ := id hJ
     have hc45 := H.cells 4 rfl
     exact dp_v (v := (.agg #[(Sl a13 r10.1.1 c14), (Sl a15 r10.1.2 c16)])) wn (rv_load (cs := [(Sl a13 r10.1.1 c14), (Sl a15 r10.1.2 c16)]) Tryz.underlying47 rfl ti47 e8 rfl hc45) rfl hJ
    refine ⟨?_, ?_⟩
    ·rintro ⟨a49, c50⟩ ρ σm hJ hoff hdep
     have e8 := look_off (N := 28) (hoff 8 rfl) rfl
     obtain ⟨H, m⟩ := id hJ
     have hc45 := H.cells 5 rfl
     exact dp_v (v := (.agg #[(Sl a13 r10.1.1 c14), (Sl a15 r10.1.2 c16)])) wn (rv_load (cs := [(Sl a13 r10.1.1 c14), (Sl a15 r10.1.2 c16)]) Tryz.underlying47 rfl ti47 e8 rfl hc45) rfl hJ
    trivial) ?_
  refine ac rfl (by
    intro k; rintro ⟨a49, c50⟩ ρ σm hJ hoff hdep
    have e9 := look_off (N := 28) (hoff 9 rfl) rfl
    exact dp_v (v := (Sl a26 r23.1 c27)) wn (rv_move e9) rfl hJ) ?_
  refine ac rfl (by
    intro k; rintro ⟨a49, c50⟩ ρ σm hJ hoff hdep
    have e10 := look_off (N := 28) (hoff 10 rfl) rfl
    exact dp_v (v := (Sl a34 r31.1 c35)) wn (rv_move e10) rfl hJ) ?_
  refine ac rfl (by
    intro k; rintro ⟨a49, c50⟩ ρ σm hJ hoff hdep
    have e11 := look_off (N := 28) (hoff 11 rfl) rfl
    exact dp_v (v := (I r39.1)) wn (rv_move e11) rfl hJ) ?_
  refine ac rfl (by
    intro k; rintro ⟨a49, c50⟩ ρ σm hJ hoff hdep
    have e7 := look_off (N := 28) (hoff 7 rfl) rfl
    exact dp_v (v := (pt b6 0)) wn (rv_move e7) rfl hJ) ?_
  refine all_cons (by
    refine ⟨?_, ?_⟩
    ·rintro ⟨a49, c50⟩ ρ σm hJ hoff hdep
     have e26 : look 28 ρ 26 = (pt b6 0) := hdep 4 rfl rfl 26 rfl
     obtain ⟨H, m⟩ := id hJ
     refine dp_cx wn (cx_call hc48 (ent_f hc48.fn (by show [look 28 ρ 26] = _; rw [e26])) hn0 (H.sel' [0, 1, 1, 2, 3, 4, 5, 6, 7] rfl rfl : Hp S0 σ0 _ ([_, _] ++ _))) ?_
     rintro _ σq ⟨_, ⟨a49x, c50x, rfl, rfl⟩, H2, m2⟩
     exact ⟨_, (a49x, c50x), rfl, rfl, ⟨H2.sel' [0, 1, 2, 3, 4, 5, 6, 7, 8] rfl rfl, m.comp m2⟩, stab [0, 1, 2, 3, 4] (by kernel_rfl) ⟨rfl, rfl, rfl, rfl, rfl, trivial⟩⟩
    trivial) ?_
  refine all_cons (by
    refine ⟨?_, ?_⟩
    ·rintro ⟨a49, c50⟩ ρ σm hJ hoff hdep
     have e2 := look_off (N := 28) (hoff 2 rfl) rfl
     have e22 := hdep 0 rfl rfl 22 rfl
     obtain ⟨H, m⟩ := id hJ
     refine dp_exS wn rfl (ex_store_box (k := 0) (cs := [(.slice none 0 0), (.slice none 0 0)]) (vs := [(Sl a13 r10.1.1 c14), (Sl a15 r10.1.2 c16)]) (cs' := [(Sl a13 r10.1.1 c14), (Sl a15 r10.1.2 c16)]) H (i := 8) rfl ti47 e2 rfl e22 rfl rfl (Nat.le_of_ble_eq_true rfl) (by simp [plain]) rfl) ?_
     rintro σq ⟨H2, m2⟩
     exact ⟨_, (a49, c50), rfl, ⟨H2.sel' [0, 1, 2, 3, 4, 5, 6, 7, 8] rfl rfl, m.comp m2⟩, stab [0, 1, 2, 3, 4, 5] (by kernel_rfl) ⟨rfl, rfl, rfl, rfl, rfl, rfl, trivial⟩⟩
    trivial) ?_
  refine ac rfl (by
    intro k; rintro ⟨a49, c50⟩ ρ σm hJ hoff hdep
    have e23 := hdep 1 rfl rfl 23 rfl
    exact dp_v (v := (Sl a26 r23.1 c27)) wn (rv_assign e23) rfl hJ) ?_
  refine ac rfl (by
    intro k; rintro ⟨a49, c50⟩ ρ σm hJ hoff hdep
    have e24 := hdep 2 rfl rfl 24 rfl
    exact dp_v (v := (Sl a34 r31.1 c35)) wn (rv_assign e24) rfl hJ) ?_
  exact all_nil
 ·rintro ⟨a49, c50⟩ ρ σ51 hJ hoff hrel
  have e2 := look_off (N := 28) (hoff 2 rfl) rfl
  have e3 := hrel 7 rfl 3 rfl
  have e4 := hrel 8 rfl 4 rfl
  have e25 := hrel 3 rfl 25 rfl
  have e27 := hrel 5 rfl 27 rfl
  obtain ⟨H, -⟩ := (show Hp S0 σ0 σ51 [Ch.bx n0 b1 0 [(Sl a13 r10.1.1 c14), (Sl a15 r10.1.2 c16)] [] [], Ch.bx n0 b6 0 [(Sl a49 r46.2.1 c50), (I r46.2.2)] [] [], Ch.ro 0 (Sl a49 r46.2.1 c50) r46.2.1, Ch.ro 0 (Sl a42 r39.2.1 c43) r39.2.1, Ch.own n0 n0 (Sl a34 r31.1 c35) r31.1, Ch.own n0 n0 (Sl a26 r23.1 c27) r23.1, Ch.bx n0 b20 0 [(Sl a13 r10.1.1 c14), (Sl a15 r10.1.2 c16)] [] [], Ch.own n0 n0 (Sl a13 r10.1.1 c14) r10.1.1, Ch.own n0 n0 (Sl a15 r10.1.2 c16) r10.1.2] ∧ Md (fun i => (fun i => (cov []) i ∨ (cov [Ch.bx n0 b6 0 [(Sl a42 r39.2.1 c43), (I r39.2.2)] [] [], Ch.ro 0 (Sl a42 r39.2.1 c43) r39.2.1]) i) i ∨ (fun i => i = b1) i) σ44 σ51 from hJ)
  clear hJ Hs
  rw [fr_lookL (L := [(2, (pt b1 0)), (3, (Sl a26 r23.1 c27)), (4, (Sl a34 r31.1 c35)), (25, (I r39.1)), (27, (I r46.1))]) ⟨e2, e3, e4, e25, e27, trivial⟩]
  clear hoff hrel e2 e3 e4 e25 e27
  refine sa (I r39.1) rfl (sa (I r46.1) rfl (w_end (q_then (c_ret ?_))))
  obtain rfl := sj h
  exact fin_ret (v := (.tuple #[(.agg #[(Sl a13 r10.1.1 c14), (Sl a15 r10.1.2 c16)]), (Sl a26 r23.1 c27), (Sl a34 r31.1 c35), (I r39.1), (I r46.1)])) (results_ok Tryz.results28 (res_cell rfl (run_cellRes (cs := [(Sl a13 r10.1.1 c14), (Sl a15 r10.1.2 c16)]) Tryz.underlying47 rfl ti47 rfl (H.cells 0 rfl)) (res_tmp (v := (Sl a26 r23.1 c27)) rfl (res_tmp (v := (Sl a34 r31.1 c35)) rfl (res_tmp (v := (I r39.1)) rfl (res_tmp (v := (I r46.1)) rfl res_nil))))) rfl) ⟨a13, c14, a15, c16, a26, c27, a34, c35, rfl, rfl⟩ (H.sel' [7, 8, 5, 4] rfl rfl)

theorem c_impl_gapsOf {Aa : List Int} {Ac : List Int} (Gn : Aa.length = 4) (Gp : Ac.length = 4) {r : (List Int)} (h : M.impl_gapsOf Aa Ac = some r) :
    Cal2 Tryz.prog 46 [(.agg (List.map I Aa).toArray), (.agg (List.map I Ac).toArray)] [] (fun n0 v L => v = (.agg (List.map I r).toArray) ∧ L = [] ∧ r.length = 4) := by
 refine cal2 (n := 29) Tryz.func46 rfl rfl rfl rfl ?_
 intro S0 σ0 n0 hn0 H
 unfold M.impl_gapsOf at h
 refine c_seq (rg (st_ex (ex_box (cs := (List.map I Aa)) H hn0 rfl rfl) wn ?_))
 rintro _ σ2 ⟨b1, rfl, H, -⟩
 refine st_ex (ex_box (cs := (List.map I Ac)) H hn0 rfl rfl) wn ?_
 rintro _ σ4 ⟨b3, rfl, H, -⟩
 refine st_ex (ex_alloc (cs := (List.map I (List.replicate 4 0))) H hn0 ti67 rfl) wn ?_
 rintro _ σ6 ⟨b5, rfl, H, -⟩
 refine w_end (q_then (c_seq (rg (st_ex (ex_alloc (cs := (List.map I (List.replicate 4 0))) H hn0 ti67 rfl) wn ?_))))
 rintro _ σ8 ⟨b7, rfl, H, -⟩
 refine w_end (q_then (c_seq (c_seq (rg (sm (I 0) rfl (w_end (q_then ?_)))))))
 obtain ⟨o9, hj, h'⟩ := bind_some h
 clear h
 refine c_cut (fun e a w => e = .normal ∧ ∃ (ρ : Nat → Value) (σ : St), a = fr 29 (updL ρ [(4, (pt b5 0)), (5, (pt b7 0))]) ∧ w = σ.w ∧ Hp S0 σ0 σ [Ch.bx n0 b7 0 (List.map I o9) [] [], Ch.bx n0 b5 0 (List.map I (List.replicate 4 0)) [] []] ∧ o9.length = 4) ?_ ?_
 ·clear h'
  rename _ = some o9 => h
  refine c_blk (wp_loopM _ h (fun s10 a w => ∃ (ρ : Nat → Value) (σ : St), a = fr 29 (updL ρ [(2, (pt b1 0)), (3, (pt b3 0)), (4, (pt b5 0)), (5, (pt b7 0)), (7, (I s10.2))]) ∧ w = σ.w ∧ Hp S0 σ0 σ [Ch.bx n0 b7 0 (List.map I s10.1) [] [], Ch.bx n0 b1 0 (List.map I Aa) [] [], Ch.bx n0 b3 0 (List.map I Ac) [] [], Ch.bx n0 b5 0 (List.map I (List.replicate 4 0)) [] []] ∧ s10.1.length = 4) ⟨_, σ8, fr_join ⟨rfl, rfl, rfl, rfl, rfl, trivial⟩, rfl, H.sel' [0, 3, 2, 1] rfl rfl, rfl⟩ ?_)
  clear h H
  rintro s10 a w o ⟨ρ, σ11, rfl, rfl, H, hl12⟩ h hres
  refine c_seq (rg (st (v := (B (decide (s10.2 < 4)))) (rv_lss (a := s10.2) (b := 4) rfl rfl) (w_end (q_then (c_seq ?_)))))
  refine cd_cond (decide (s10.2 < 4)) rfl (fun hb13 => ?_) (fun hb13 => ?_)
  ·replace h := bif_t hb13 h
   refine c_skip (q_then (c_seq (c_blk (c_seq (rg (sm (I s10.2) rfl (sa (I s10.2) rfl (w_end (q_then ?_)))))))))
   refine rgP (σ := σ11) 16 (by kernel_rfl) (by kernel_rfl) (by kernel_rfl) ?_
   refine sq (v := (I s10.2)) (rv_move rfl) (sq (v := (I s10.2)) (rv_move rfl) ?_)
   revert h; refine br fun x14 hx15 h => ?_
   have hl16 := gidx_lt hx15 Gn
   refine sq (v := (pt b1 (0 + s10.2.toNat * 1))) (rv_indexAddr_array Tryz.underlying67 ti3 rfl rfl hl16.1 hl16.2) ?_
   have hc17 := Hp.arrCell H 1 rfl hx15
   refine sq (v := (I x14)) (rv_load1 Tryz.underlying3 rfl rfl hc17) (sq (v := (I s10.2)) (rv_move rfl) ?_)
   revert h; refine br fun x18 hx19 h => ?_
   have hl20 := gidx_lt hx19 Gp
   refine sq (v := (pt b3 (0 + s10.2.toNat * 1))) (rv_indexAddr_array Tryz.underlying67 ti3 rfl rfl hl20.1 hl20.2) ?_
   have hc21 := Hp.arrCell H 2 rfl hx19
   refine sq (v := (I x18)) (rv_load1 Tryz.underlying3 rfl rfl hc21) (sq (v := (I (w64 (x14 - x18)))) (rv_sub (a := x14) (b := x18) rfl rfl) (sq (v := (I s10.2)) (rv_move rfl) ?_))
   revert h; refine br fun x22 hx23 h => ?_
   have hl24 := gidx_lt hx23 Gp
   refine sq (v := (pt b3 (0 + s10.2.toNat * 1))) (rv_indexAddr_array Tryz.underlying67 ti3 rfl rfl hl24.1 hl24.2) ?_
   have hc25 := Hp.arrCell H 2 rfl hx23
   refine sq (v := (I x22)) (rv_load1 Tryz.underlying3 rfl rfl hc25) (sq (v := (I s10.2)) (rv_move rfl) ?_)
   revert h; refine br fun x26 hx27 h => ?_
   have hl28 := gidx_lt hx27 Gn
   refine sq (v := (pt b1 (0 + s10.2.toNat * 1))) (rv_indexAddr_array Tryz.underlying67 ti3 rfl rfl hl28.1 hl28.2) ?_
   have hc29 := Hp.arrCell H 1 rfl hx27
   refine sq (v := (I x26)) (rv_load1 Tryz.underlying3 rfl rfl hc29) (sq (v := (I (w64 (x22 - x26)))) (rv_sub (a := x22) (b := x26) rfl rfl) (sq (v := (I (max (w64 (x14 - x18)) (w64 (x22 - x26))))) (rv_max rfl rfl) (sq_end ?_)))
   intro σ30 hm31
   replace H := H.grow (hm31.mono fun _ h => h); clear hm31
   revert h; refine br fun x32 hx33 h => ?_
   have hl34 := gidx_lt hx33 hl12
   refine st (v := (pt b7 (0 + s10.2.toNat * 1))) (rv_indexAddr_array Tryz.underlying67 ti3 rfl rfl hl34.1 hl34.2) ?_
   have hl35 := gidx_lt hx33 hl12
   refine st_exS (ex_store_box (k := s10.2.toNat * 1) (vs := [(I (max (w64 (x14 - x18)) (w64 (x22 - x26))))]) (cs' := (List.map I (s10.1.set s10.2.toNat (max (w64 (x14 - x18)) (w64 (x22 - x26)))))) H (i := 0) rfl ti3 rfl rfl rfl rfl rfl (by rw [List.length_map, hl12]; simp; omega) (by simp [plain]) (arr_set' _ _ _)) wn ?_
   rintro σ36 ⟨H, -⟩
   refine w_end (q_blk (q_then (rg (st (v := (I (w64 (s10.2 + 1)))) (rv_add (a := s10.2) (b := 1) rfl rfl) (sm (I (w64 (s10.2 + 1))) rfl (w_end (q_then ?_)))))))
   obtain rfl := sj h
   exact ⟨_, rfl, _, σ36, fr_join ⟨rfl, rfl, rfl, rfl, rfl, trivial⟩, rfl, H.sel' [0, 1, 2, 3] rfl rfl, (set_len hl12)⟩
  ·replace h := bif_f hb13 h
   refine c_exit (q_then_x (q_then_x (q_blk_hit ?_)))
   obtain rfl := sj h
   obtain rfl := hres _ rfl
   exact ⟨rfl, _, σ11, fr_join ⟨rfl, rfl, trivial⟩, rfl, H.sel' [0, 3] rfl rfl, hl12⟩
 ·clear hj
  have h := h'
  clear h' H
  rintro e a w ⟨rfl, ρ, σ37, rfl, rfl, H, hl38⟩
  refine q_then (c_seq (rg ?_))
  have hc39 := H.cells 0 rfl
  refine st (v := (.agg (List.map I o9).toArray)) (rv_load (cs := (List.map I o9)) Tryz.underlying67 rfl ti67 rfl (by rw [List.length_map]; exact hl38) hc39) ?_
  refine st_exS (ex_store_box (k := 0) (cs := (List.map I (List.replicate 4 0))) (vs := (List.map I o9)) (cs' := (List.map I o9)) H (i := 1) rfl ti67 rfl rfl rfl rfl ((List.length_map _).trans hl38) (arr_fits (k := 4) hl38 rfl) (plain_ints _) (arr_all (k := 4) hl38 rfl)) wn ?_
  rintro σ40 ⟨H, -⟩
  refine w_end (q_then (c_ret ?_))
  obtain rfl := sj h
  exact fin_ret (v := (.agg (List.map I o9).toArray)) (results_ok Tryz.results46 (res_cell rfl (run_cellRes (cs := (List.map I o9)) Tryz.underlying67 rfl ti67 (by rw [List.length_map]; exact hl38) (H.cells 0 rfl)) res_nil) rfl) ⟨rfl, rfl, hl38⟩ (H.sel' [] rfl rfl)

theorem c_impl_distanceOf {Cl : Int} {Gq : List Int} (Gr : Gq.length = 4) {r : Int} (h : M.impl_distanceOf Cl Gq = some r) :
    Cal2 Tryz.prog 45 [(I Cl), (.agg (List.map I Gq).toArray)] [] (fun n0 v L => v = (I r) ∧ L = []) := by
 refine cal2 (n := 38) Tryz.func45 rfl rfl rfl rfl ?_
 intro S0 σ0 n0 hn0 H
 unfold M.impl_distanceOf at h
 refine c_seq (rg (st_ex (ex_box (cs := (List.map I Gq)) H hn0 rfl rfl) wn ?_))
 rintro _ σ2 ⟨b1, rfl, H, -⟩
 refine sa (I 0) rfl (w_end (q_then (c_seq (rg (sa (I 0) rfl (w_end (q_then (c_seq (c_seq (rg ?_))))))))))
 have hc3 := H.cells 0 rfl
 refine st (v := (.agg (List.map I Gq).toArray)) (rv_load (cs := (List.map I Gq)) Tryz.underlying67 rfl ti67 rfl (by rw [List.length_map]; exact Gr) hc3) ?_
 refine sm (I 0) rfl (w_end (q_then ?_))
 obtain ⟨o4, hj, h'⟩ := bind_some h
 clear h
 refine c_cut (fun e a w => (∃ t, o4 = (.inl t) ∧ e = .normal ∧ ∃ (ρ : Nat → Value) (σ : St), a = fr 38 (updL ρ [(5, (I t))]) ∧ w = σ.w ∧ Hp S0 σ0 σ []) ∨ (∃ t, o4 = (.inr t) ∧ e = .ret ∧ ∃ (ρ : Nat → Value) (σ : St), a = fr 38 (updL ρ [(4, (I t))]) ∧ w = σ.w ∧ Hp S0 σ0 σ [])) ?_ ?_
 ·clear h'
  rename _ = some o4 => h
  refine c_blk (wp_loopM _ h (fun s5 a w => ∃ (ρ : Nat → Value) (σ : St), a = fr 38 (updL ρ [(0, (I Cl)), (5, (I s5.1)), (8, (.agg (List.map I Gq).toArray)), (9, (I s5.2))]) ∧ w = σ.w ∧ Hp S0 σ0 σ []) ⟨_, σ2, fr_join ⟨rfl, rfl, rfl, rfl, trivial⟩, rfl, H.sel' [] rfl rfl⟩ ?_)
  clear h H
  rintro s5 a w o ⟨ρ, σ6, rfl, rfl, H⟩ h hres
  refine c_seq (rg (st (v := (B (decide (s5.2 < 4)))) (rv_lss (a := s5.2) (b := 4) rfl rfl) (w_end (q_then (c_seq ?_)))))
  refine cd_cond (decide (s5.2 < 4)) rfl (fun hb7 => ?_) (fun hb7 => ?_)
  ·replace h := bif_t hb7 h
   refine c_skip (q_then (c_seq ?_))
   obtain ⟨o8, hj, h'⟩ := bind_some h
   clear h
   refine c_cut (fun e a w => (∃ t, o8 = (.inl t) ∧ e = .normal ∧ ∃ (ρ : Nat → Value) (σ : St), a = fr 38 (updL ρ [(0, (I Cl)), (5, (I t)), (8, (.agg (List.map I Gq).toArray)), (9, (I s5.2))]) ∧ w = σ.w ∧ Hp S0 σ0 σ []) ∨ (∃ t, o8 = (.inr t) ∧ e = .ret ∧ ∃ (ρ : Nat → Value) (σ : St), a = fr 38 (updL ρ [(4, (I t))]) ∧ w = σ.w ∧ Hp S0 σ0 σ [])) ?_ ?_
   ·clear h'
    rename _ = some o8 => h
    refine c_blk (c_seq (rg ?_))
    revert h; refine br fun x9 hx10 h => ?_
    refine st (v := (I x9)) (rv_idx Tryz.underlying67 ti3 Tryz.underlying3 rfl rfl hx10 Gr) (sa (I x9) rfl (w_end (q_then (c_seq (rg (sm (I Cl) rfl (w_end (q_then (c_blk (c_seq (rg ?_)))))))))))
    refine st (v := (B (Cl == 1))) (rv_eql (a := Cl) (b := 1) rfl rfl) (sa (B (Cl == 1)) rfl (w_end (q_then ?_)))
    refine cd_cond (Cl == 1) rfl (fun hb11 => ?_) (fun hb11 => ?_)
    ·replace h := bif_t hb11 h
     refine rg (sm (I s5.1) rfl (sm (I x9) rfl (st (v := (I (w64 (s5.1 + x9)))) (rv_add (a := s5.1) (b := x9) rfl rfl) (sa (I (w64 (s5.1 + x9))) rfl (w_end (q_blk (q_blk ?_)))))))
     obtain rfl := sj h
     exact .inl ⟨_, rfl, rfl, _, σ6, fr_join ⟨rfl, rfl, rfl, rfl, trivial⟩, rfl, H.sel' [] rfl rfl⟩
    ·replace h := bif_f hb11 h
     refine c_seq (rg (st (v := (B (Cl == 2))) (rv_eql (a := Cl) (b := 2) rfl rfl) (sa (B (Cl == 2)) rfl (w_end (q_then ?_)))))
     refine cd_cond (Cl == 2) rfl (fun hb12 => ?_) (fun hb12 => ?_)
     ·replace h := bif_t hb12 h
      refine rg (sm (I s5.1) rfl (sm (I x9) rfl (st (v := (I (max s5.1 x9))) (rv_max rfl rfl) (sa (I (max s5.1 x9)) rfl (w_end (q_blk (q_blk ?_)))))))
      obtain rfl := sj h
      exact .inl ⟨_, rfl, rfl, _, σ6, fr_join ⟨rfl, rfl, rfl, rfl, trivial⟩, rfl, H.sel' [] rfl rfl⟩
     ·replace h := bif_f hb12 h
      refine c_seq (rg (st (v := (B (Cl == 3))) (rv_eql (a := Cl) (b := 3) rfl rfl) (sa (B (Cl == 3)) rfl (w_end (q_then ?_)))))
      refine cd_cond (Cl == 3) rfl (fun hb13 => ?_) (fun hb13 => ?_)
      ·replace h := bif_t hb13 h
       refine rg (sm (I s5.1) rfl (sm (I x9) rfl (sm (I x9) rfl (st (v := (I (w64 (x9 * x9)))) (rv_mul (a := x9) (b := x9) rfl rfl) (st (v := (I (w64 (s5.1 + (w64 (x9 * x9)))))) (rv_add (a := s5.1) (b := (w64 (x9 * x9))) rfl rfl) (sa (I (w64 (s5.1 + (w64 (x9 * x9))))) rfl (w_end (q_blk (q_blk ?_)))))))))
       obtain rfl := sj h
       exact .inl ⟨_, rfl, rfl, _, σ6, fr_join ⟨rfl, rfl, rfl, rfl, trivial⟩, rfl, H.sel' [] rfl rfl⟩
      ·replace h := bif_f hb13 h
       refine c_seq (rg (st (v := (B (Cl == 4))) (rv_eql (a := Cl) (b := 4) rfl rfl) (sa (B (Cl == 4)) rfl (w_end (q_then ?_)))))
       refine cd_cond (Cl == 4) rfl (fun hb14 => ?_) (fun hb14 => ?_)
       ·replace h := bif_t hb14 h
        refine rg (sm (I s5.1) rfl (sm (I x9) rfl (st (v := (I (min x9 1))) (rv_min rfl rfl) (st (v := (I (w64 (s5.1 + (min x9 1))))) (rv_add (a := s5.1) (b := (min x9 1)) rfl rfl) (sa (I (w64 (s5.1 + (min x9 1)))) rfl (w_end (q_blk (q_blk ?_))))))))
        obtain rfl := sj h
        exact .inl ⟨_, rfl, rfl, _, σ6, fr_join ⟨rfl, rfl, rfl, rfl, trivial⟩, rfl, H.sel' [] rfl rfl⟩
       ·replace h := bif_f hb14 h
        refine c_seq (rg (sa (I (-1)) rfl (w_end (q_then (c_ret (q_blk_r (q_blk_r ?_)))))))
        obtain rfl := sj h
        exact .inr (⟨_, rfl, rfl, _, σ6, fr_join ⟨rfl, trivial⟩, rfl, H.sel' [] rfl rfl⟩)
   ·clear hj
    have h := h'
    clear h' H
    rintro e a w (⟨t15, rfl, rfl, ρ, σ16, rfl, rfl, H⟩ | ⟨t17, rfl, rfl, ρ, σ18, rfl, rfl, H⟩)
    ·replace h := selim_l h
     refine q_then (rg (st (v := (I (w64 (s5.2 + 1)))) (rv_add (a := s5.2) (b := 1) rfl rfl) (sm (I (w64 (s5.2 + 1))) rfl (w_end (q_then ?_)))))
     obtain rfl := sj h
     exact ⟨_, rfl, _, σ16, fr_join ⟨rfl, rfl, rfl, rfl, trivial⟩, rfl, H.sel' [] rfl rfl⟩
    ·replace h := selim_r h
     refine q_then_r (q_then_r (q_blk_r ?_))
     obtain rfl := sj h
     obtain rfl := hres _ rfl
     exact .inr (⟨_, rfl, rfl, _, σ18, fr_join ⟨rfl, trivial⟩, rfl, H.sel' [] rfl rfl⟩)
  ·replace h := bif_f hb7 h
   refine c_exit (q_then_x (q_then_x (q_blk_hit ?_)))
   obtain rfl := sj h
   obtain rfl := hres _ rfl
   exact .inl ⟨_, rfl, rfl, _, σ6, fr_join ⟨rfl, trivial⟩, rfl, H.sel' [] rfl rfl⟩
 ·clear hj
  have h := h'
  clear h' H
  rintro e a w (⟨t19, rfl, rfl, ρ, σ20, rfl, rfl, H⟩ | ⟨t21, rfl, rfl, ρ, σ22, rfl, rfl, H⟩)
  ·replace h := selim_l h
   refine q_then (c_seq (rg (sm (I t19) rfl (sa (I t19) rfl (w_end (q_then (c_ret ?_)))))))
   obtain rfl := sj h
   exact fin_ret (v := (I t19)) (results_ok Tryz.results45 (res_tmp (v := (I t19)) rfl res_nil) rfl) ⟨rfl, rfl⟩ (H.sel' [] rfl rfl)
  ·replace h := selim_r h
   refine q_then_r ?_
   obtain rfl := sj h
   exact fin_ret (v := (I t21)) (results_ok Tryz.results45 (res_tmp (v := (I t21)) rfl res_nil) rfl) ⟨rfl, rfl⟩ (H.sel' [] rfl rfl)

end Go.Vs
