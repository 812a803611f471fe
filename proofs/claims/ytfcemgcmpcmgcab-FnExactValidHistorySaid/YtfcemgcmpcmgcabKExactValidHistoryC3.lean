/- The functions compute what their models say. -/
import Derived.Test.YtfcemgcmpcmgcabKExactValidHistoryC2
set_option linter.unusedVariables false
set_option linter.unusedSimpArgs false
set_option maxRecDepth 20000
namespace Go.Vs
open Go Go.Proofs
attribute [local irreducible] Code.wp Code.wpIn wpList wpListIn wpQuiet Calls CallsIn

theorem c_spec_put {list_0 : List (Int × (List Int) × Int)} {x_1 : Int × (List Int) × Int} {alist_0 : Option Addr} {clist_0 : Nat} {ax_1_1 : Option Addr} {cx_1_1 : Nat} {r : (List (Int × (List Int) × Int))} (h : M.spec_put list_0 x_1 = some r) :
    Cal2 Try.prog 113 [(Sl alist_0 list_0 clist_0), (.agg #[(I x_1.1), (Sl ax_1_1 x_1.2.1 cx_1_1), (I x_1.2.2)])] [Ch.ro 0 (Sl alist_0 list_0 clist_0) list_0, Ch.ro 0 (Sl ax_1_1 x_1.2.1 cx_1_1) x_1.2.1] (fun n0 v L => ∃ (az1 : Option Addr), ∃ (cz2 : Nat), v = (Sl az1 r cz2) ∧ L = [Ch.own n0 n0 (Sl az1 r cz2) r]) := by
 refine cal2 (n := 59) Try.func113 rfl rfl rfl rfl ?_
 intro S0 σ0 n0 hn0 H
 unfold M.spec_put at h
 refine c_seq ?_
 refine rg ?_
 refine st_ex (ex_box (cs := [(I x_1.1), (Sl ax_1_1 x_1.2.1 cx_1_1), (I x_1.2.2)]) H hn0 rfl rfl) wn ?_
 rintro _ σ2 ⟨b1, rfl, H, -⟩
 refine st (v := (.slice none 0 0)) (rv_assign rfl) ?_
 refine w_end ?_
 refine q_then ?_
 refine c_seq ?_
 refine rg ?_
 refine st_ex (ex_buildSlice (el := n0) (xs := ([] : List (Int × (List Int) × Int))) (ps := []) (cs := []) H hn0 Try.underlying32 ti36 rfl rfl (by kernel_rfl) (.nil) rfl) wn ?_
 rintro _ σ4 ⟨b3, rfl, H, -⟩
 refine st (v := (Sl (some ⟨b3, 0, none⟩) ([] : List (Int × (List Int) × Int)) 0)) (rv_assign rfl) ?_
 refine w_end ?_
 refine q_then ?_
 refine c_seq ?_
 refine c_seq ?_
 refine rg ?_
 refine st (v := (I 0)) (rv_assign rfl) ?_
 refine w_end ?_
 refine q_then ?_
 obtain ⟨o5, hj, h'⟩ := bind_some h
 clear h
 refine c_cut (fun e a w => e = .normal ∧ ∃ (ρ : Nat → Value) (σ : St) (aj1 : Option Addr) (cj2 : Nat), a = fr 59 (updL ρ [(0, (Sl alist_0 list_0 clist_0)), (3, (pt b1 0)), (5, (Sl aj1 o5 cj2))]) ∧ w = σ.w ∧ Hp S0 σ0 σ [Ch.ro 0 (Sl alist_0 list_0 clist_0) list_0, Ch.ro 0 (Sl ax_1_1 x_1.2.1 cx_1_1) x_1.2.1, Ch.bx n0 b1 0 [(I x_1.1), (Sl ax_1_1 x_1.2.1 cx_1_1), (I x_1.2.2)] [] [], Ch.own n0 n0 (Sl aj1 o5 cj2) o5]) ?_ ?_
 ·clear h'
  rename _ = some o5 => h
  refine c_blk ?_
  refine wp_loopM _ h (fun s6 a w => ∃ (ρ : Nat → Value) (σ : St) (aj1 : Option Addr) (cj2 : Nat), a = fr 59 (updL ρ [(0, (Sl alist_0 list_0 clist_0)), (3, (pt b1 0)), (5, (Sl aj1 s6.1 cj2)), (6, (I s6.2))]) ∧ w = σ.w ∧ Hp S0 σ0 σ [Ch.ro 0 (Sl alist_0 list_0 clist_0) list_0, Ch.ro 0 (Sl ax_1_1 x_1.2.1 cx_1_1) x_1.2.1, Ch.bx n0 b1 0 [(I x_1.1), (Sl ax_1_1 x_1.2.1 cx_1_1), (I x_1.2.2)] [] [], Ch.own n0 n0 (Sl aj1 s6.1 cj2) s6.1]) ⟨_, σ4, (some ⟨b3, 0, none⟩), 0, fr_join ⟨rfl, rfl, rfl, rfl, trivial⟩, rfl, H.sel' [2, 3, 1, 0] rfl rfl⟩ ?_
  clear h H
  rintro s6 a w o ⟨ρ, σ7, a8, c9, rfl, rfl, H⟩ h hres
  refine c_seq ?_
  refine c_seq ?_
  refine rg ?_
  refine st (v := (I s6.2)) (rv_move rfl) ?_
  refine st (v := (Sl alist_0 list_0 clist_0)) (rv_move rfl) ?_
  refine st (v := (I (list_0.length : Int))) (rv_len Try.underlying32 rfl) ?_
  refine st (v := (B (decide (s6.2 < (list_0.length : Int))))) (rv_lss (a := s6.2) (b := (list_0.length : Int)) rfl rfl) ?_
  refine w_end ?_
  refine q_then ?_
  refine cd_cond (decide (s6.2 < (list_0.length : Int))) rfl (fun hb10 => ?_) (fun hb10 => ?_)
  ·replace h := bif_t hb10 h
   refine c_skip ?_
   refine q_then ?_
   refine c_seq ?_
   obtain ⟨o11, hj, h'⟩ := bind_some h
   clear h
   refine c_cut (fun e a w => e = .normal ∧ ∃ (ρ : Nat → Value) (σ : St) (aj1 : Option Addr) (cj2 : Nat), a = fr 59 (updL ρ [(0, (Sl alist_0 list_0 clist_0)), (3, (pt b1 0)), (5, (Sl aj1 o11 cj2)), (6, (I s6.2))]) ∧ w = σ.w ∧ Hp S0 σ0 σ [Ch.ro 0 (Sl alist_0 list_0 clist_0) list_0, Ch.ro 0 (Sl ax_1_1 x_1.2.1 cx_1_1) x_1.2.1, Ch.bx n0 b1 0 [(I x_1.1), (Sl ax_1_1 x_1.2.1 cx_1_1), (I x_1.2.2)] [] [], Ch.own n0 n0 (Sl aj1 o11 cj2) o11]) ?_ ?_
   ·clear h'
    rename _ = some o11 => h
    refine c_blk ?_
    refine c_seq ?_
    refine rgP (σ := σ7) 7 (by kernel_rfl) (by kernel_rfl) (by kernel_rfl) ?_
    refine sq (v := (Sl alist_0 list_0 clist_0)) (rv_move rfl) ?_
    refine sq (v := (I s6.2)) (rv_move rfl) ?_
    obtain ⟨x12, hx13, h'⟩ := bind_some h
    clear h
    have h := h'; clear h'
    obtain ⟨b15, o16, hi14, -⟩ := (H.ro 0 rfl).ix hx13
    refine sq (v := (pt b15 o16)) (rv_ix Try.underlying32 ti36 rfl rfl hi14) ?_
    refine sq (v := (pt b15 (o16 + 0))) (rv_fieldAddr (off := 0) (ft := 3) Try.underlying36 rfl ti3 rfl rfl) ?_
    have hc17 := ((H.ro 0 rfl).at hx13 hi14).fst.int
    refine sq (v := (I x12.1)) (rv_load1 Try.underlying3 rfl rfl hc17) ?_
    refine sq (v := (pt b1 0)) (rv_fieldAddr (off := 0) (ft := 3) Try.underlying36 rfl ti3 rfl rfl) ?_
    have hc18 := H.cell (u := (I x_1.1)) (o' := 0) 2 0 rfl rfl rfl
    refine sq (v := (I x_1.1)) (rv_load1 Try.underlying3 rfl rfl hc18) ?_
    refine sq_end ?_
    intro σ19 hm20
    replace H := H.grow (hm20.mono fun _ h => h); clear hm20
    refine st (v := (B (decide (x12.1 < x_1.1)))) (rv_lss (a := x12.1) (b := x_1.1) rfl rfl) ?_
    refine w_end ?_
    refine q_then ?_
    refine cd_cond (decide (x12.1 < x_1.1)) rfl (fun hb21 => ?_) (fun hb21 => ?_)
    ·replace h := bif_t hb21 h
     refine rg ?_
     refine st (v := (Sl a8 s6.1 c9)) (rv_move rfl) ?_
     refine st (v := (Sl alist_0 list_0 clist_0)) (rv_move rfl) ?_
     refine st (v := (I s6.2)) (rv_move rfl) ?_
     obtain ⟨x22, hx23, h'⟩ := bind_some h
     clear h
     have h := h'; clear h'
     obtain ⟨b25, o26, hi24, -⟩ := (H.ro 0 rfl).ix hx23
     refine st (v := (pt b25 o26)) (rv_ix Try.underlying32 ti36 rfl rfl hi24) ?_
     obtain ⟨_, ⟨_, _, rfl, rfl, ⟨_, _, rfl, ⟨_, rfl, hR31⟩, rfl⟩⟩, hl27, hc28⟩ := ((H.ro 0 rfl).at hx23 hi24).cells
     obtain ⟨a29, c30, rfl⟩ := hR31.isSl
     replace H := H.add (d := Ch.ro 0 (Sl a29 x22.2.1 c30) x22.2.1) hR31 (fun _ h => h)
     clear hR31
     refine st (v := (.agg #[(I x22.1), (Sl a29 x22.2.1 c30), (I x22.2.2)])) (rv_load Try.underlying36 rfl ti36 rfl hl27 hc28) ?_
     obtain ⟨r32, hx33, h'⟩ := bind_some h
     clear h
     have h := h'; clear h'
     have hc34 := c_spec_copyItem (ax_0_1 := a29) (cx_0_1 := c30) hx33
     refine st_call (cx_call hc34 (ent_f hc34.fn rfl) hn0 (show Hp S0 σ0 _ ([Ch.ro 0 (Sl a29 x22.2.1 c30) x22.2.1] ++ [Ch.ro 0 (Sl a29 x22.2.1 c30) x22.2.1, Ch.ro 0 (Sl alist_0 list_0 clist_0) list_0, Ch.ro 0 (Sl ax_1_1 x_1.2.1 cx_1_1) x_1.2.1, Ch.bx n0 b1 0 [(I x_1.1), (Sl ax_1_1 x_1.2.1 cx_1_1), (I x_1.2.2)] [] [], Ch.own n0 n0 (Sl a8 s6.1 c9) s6.1]) from (H.sel' [0, 0, 1, 2, 3, 4] rfl rfl))) wn ?_
     rintro _ σ37 ⟨_, ⟨a35, c36, rfl, rfl⟩, H, -⟩
     replace H : Hp S0 σ0 σ37 [Ch.own n0 n0 (Sl a35 r32.2.1 c36) r32.2.1, Ch.ro 0 (Sl a29 x22.2.1 c30) x22.2.1, Ch.ro 0 (Sl alist_0 list_0 clist_0) list_0, Ch.ro 0 (Sl ax_1_1 x_1.2.1 cx_1_1) x_1.2.1, Ch.bx n0 b1 0 [(I x_1.1), (Sl ax_1_1 x_1.2.1 cx_1_1), (I x_1.2.2)] [] [], Ch.own n0 n0 (Sl a8 s6.1 c9) s6.1] := H
     obtain ⟨σ38, hw39, H, -⟩ := H.pub 0 rfl (Nat.le_refl _)
     rw [← hw39]; clear hw39
     refine st_ex (ex_buildSlice (el := n0) (xs := ([(r32.1, r32.2.1, r32.2.2)] : List (Int × (List Int) × Int))) (ps := [(0, (.agg #[(I r32.1), (Sl a35 r32.2.1 c36), (I r32.2.2)]))]) (cs := [(I r32.1), (Sl a35 r32.2.1 c36), (I r32.2.2)]) H hn0 Try.underlying32 ti36 rfl rfl (by kernel_rfl) (.cons (c := [(I r32.1), (Sl a35 r32.2.1 c36), (I r32.2.2)]) ⟨[(I r32.1)], [(Sl a35 r32.2.1 c36), (I r32.2.2)], rfl, rfl, ⟨[(Sl a35 r32.2.1 c36)], [(I r32.2.2)], rfl, ⟨_, rfl, (H.ro 0 rfl)⟩, rfl⟩⟩ (.nil)) rfl) wn ?_
     rintro _ σ41 ⟨b40, rfl, H, -⟩
     obtain ⟨xs42, hx43, h'⟩ := bind_some h
     clear h
     have h := h'; clear h'
     refine st_ex (ex_append H (i := 6) rfl Try.underlying32 Try.underlying32 ti36 rfl rfl (by decide) (H.own 0 rfl).rd hx43 hn0 rfl rfl) wn ?_
     rintro _ σ46 ⟨a44, c45, rfl, H, -⟩
     refine st (v := (Sl a44 xs42 c45)) (rv_assign rfl) ?_
     refine w_end ?_
     refine q_blk ?_
     obtain rfl := Option.some.inj h
     exact ⟨rfl, _, σ46, a44, c45, fr_join ⟨rfl, rfl, rfl, rfl, trivial⟩, rfl, H.sel' [4, 5, 6, 0] rfl rfl⟩
    ·replace h := bif_f hb21 h
     refine c_skip ?_
     refine q_blk ?_
     obtain rfl := Option.some.inj h
     exact ⟨rfl, _, σ19, a8, c9, fr_join ⟨rfl, rfl, rfl, rfl, trivial⟩, rfl, H.sel' [0, 1, 2, 3] rfl rfl⟩
   ·clear hj
    have h := h'
    clear h' H
    rintro e a w ⟨rfl, ρ, σ47, a48, c49, rfl, rfl, H⟩
    refine q_then ?_
    refine rg ?_
    refine st (v := (I s6.2)) (rv_move rfl) ?_
    refine st (v := (I (w64 (s6.2 + 1)))) (rv_add (a := s6.2) (b := 1) rfl rfl) ?_
    refine st (v := (I (w64 (s6.2 + 1)))) (rv_assign rfl) ?_
    refine w_end ?_
    refine q_then ?_
    obtain rfl := Option.some.inj h
    exact ⟨_, rfl, _, σ47, a48, c49, fr_join ⟨rfl, rfl, rfl, rfl, trivial⟩, rfl, H.sel' [0, 1, 2, 3] rfl rfl⟩
  ·replace h := bif_f hb10 h
   refine c_exit ?_
   refine q_then_x ?_
   refine q_then_x ?_
   refine q_blk_hit ?_
   obtain rfl := Option.some.inj h
   obtain rfl := hres _ rfl
   exact ⟨rfl, _, σ7, a8, c9, fr_join ⟨rfl, rfl, rfl, trivial⟩, rfl, H.sel' [0, 1, 2, 3] rfl rfl⟩
 ·clear hj
  have h := h'
  clear h' H
  rintro e a w ⟨rfl, ρ, σ50, a51, c52, rfl, rfl, H⟩
  refine q_then ?_
  refine c_seq ?_
  refine rg ?_
  refine st (v := (Sl a51 o5 c52)) (rv_move rfl) ?_
  have hc53 := H.cells 2 rfl
  refine st (v := (.agg #[(I x_1.1), (Sl ax_1_1 x_1.2.1 cx_1_1), (I x_1.2.2)])) (rv_load (cs := [(I x_1.1), (Sl ax_1_1 x_1.2.1 cx_1_1), (I x_1.2.2)]) Try.underlying36 rfl ti36 rfl rfl hc53) ?_
  obtain ⟨r54, hx55, h'⟩ := bind_some h
  clear h
  have h := h'; clear h'
  have hc56 := c_spec_copyItem (ax_0_1 := ax_1_1) (cx_0_1 := cx_1_1) hx55
  refine st_call (cx_call hc56 (ent_f hc56.fn rfl) hn0 (show Hp S0 σ0 _ ([Ch.ro 0 (Sl ax_1_1 x_1.2.1 cx_1_1) x_1.2.1] ++ [Ch.ro 0 (Sl alist_0 list_0 clist_0) list_0, Ch.ro 0 (Sl ax_1_1 x_1.2.1 cx_1_1) x_1.2.1, Ch.bx n0 b1 0 [(I x_1.1), (Sl ax_1_1 x_1.2.1 cx_1_1), (I x_1.2.2)] [] [], Ch.own n0 n0 (Sl a51 o5 c52) o5]) from (H.sel' [1, 0, 1, 2, 3] rfl rfl))) wn ?_
  rintro _ σ59 ⟨_, ⟨a57, c58, rfl, rfl⟩, H, -⟩
  replace H : Hp S0 σ0 σ59 [Ch.own n0 n0 (Sl a57 r54.2.1 c58) r54.2.1, Ch.ro 0 (Sl alist_0 list_0 clist_0) list_0, Ch.ro 0 (Sl ax_1_1 x_1.2.1 cx_1_1) x_1.2.1, Ch.bx n0 b1 0 [(I x_1.1), (Sl ax_1_1 x_1.2.1 cx_1_1), (I x_1.2.2)] [] [], Ch.own n0 n0 (Sl a51 o5 c52) o5] := H
  obtain ⟨σ60, hw61, H, -⟩ := H.pub 0 rfl (Nat.le_refl _)
  rw [← hw61]; clear hw61
  refine st_ex (ex_buildSlice (el := n0) (xs := ([(r54.1, r54.2.1, r54.2.2)] : List (Int × (List Int) × Int))) (ps := [(0, (.agg #[(I r54.1), (Sl a57 r54.2.1 c58), (I r54.2.2)]))]) (cs := [(I r54.1), (Sl a57 r54.2.1 c58), (I r54.2.2)]) H hn0 Try.underlying32 ti36 rfl rfl (by kernel_rfl) (.cons (c := [(I r54.1), (Sl a57 r54.2.1 c58), (I r54.2.2)]) ⟨[(I r54.1)], [(Sl a57 r54.2.1 c58), (I r54.2.2)], rfl, rfl, ⟨[(Sl a57 r54.2.1 c58)], [(I r54.2.2)], rfl, ⟨_, rfl, (H.ro 0 rfl)⟩, rfl⟩⟩ (.nil)) rfl) wn ?_
  rintro _ σ63 ⟨b62, rfl, H, -⟩
  obtain ⟨xs64, hx65, h'⟩ := bind_some h
  clear h
  have h := h'; clear h'
  refine st_ex (ex_append H (i := 5) rfl Try.underlying32 Try.underlying32 ti36 rfl rfl (by decide) (H.own 0 rfl).rd hx65 hn0 rfl rfl) wn ?_
  rintro _ σ68 ⟨a66, c67, rfl, H, -⟩
  refine st (v := (Sl a66 xs64 c67)) (rv_assign rfl) ?_
  refine w_end ?_
  refine q_then ?_
  refine c_seq ?_
  refine c_seq ?_
  refine rg ?_
  refine st (v := (I 0)) (rv_assign rfl) ?_
  refine w_end ?_
  refine q_then ?_
  obtain ⟨o69, hj, h'⟩ := bind_some h
  clear h
  refine c_cut (fun e a w => e = .normal ∧ ∃ (ρ : Nat → Value) (σ : St) (aj1 : Option Addr) (cj2 : Nat), a = fr 59 (updL ρ [(5, (Sl aj1 o69 cj2))]) ∧ w = σ.w ∧ Hp S0 σ0 σ [Ch.own n0 n0 (Sl aj1 o69 cj2) o69]) ?_ ?_
  ·clear h'
   rename _ = some o69 => h
   refine c_blk ?_
   refine wp_loopM _ h (fun s70 a w => ∃ (ρ : Nat → Value) (σ : St) (aj1 : Option Addr) (cj2 : Nat), a = fr 59 (updL ρ [(0, (Sl alist_0 list_0 clist_0)), (3, (pt b1 0)), (5, (Sl aj1 s70.1 cj2)), (7, (I s70.2))]) ∧ w = σ.w ∧ Hp S0 σ0 σ [Ch.ro 0 (Sl alist_0 list_0 clist_0) list_0, Ch.ro 0 (Sl ax_1_1 x_1.2.1 cx_1_1) x_1.2.1, Ch.bx n0 b1 0 [(I x_1.1), (Sl ax_1_1 x_1.2.1 cx_1_1), (I x_1.2.2)] [] [], Ch.own n0 n0 (Sl aj1 s70.1 cj2) s70.1]) ⟨_, σ68, a66, c67, fr_join ⟨rfl, rfl, rfl, rfl, trivial⟩, rfl, H.sel' [3, 4, 5, 0] rfl rfl⟩ ?_
   clear h H
   rintro s70 a w o ⟨ρ, σ71, a72, c73, rfl, rfl, H⟩ h hres
   refine c_seq ?_
   refine c_seq ?_
   refine rg ?_
   refine st (v := (I s70.2)) (rv_move rfl) ?_
   refine st (v := (Sl alist_0 list_0 clist_0)) (rv_move rfl) ?_
   refine st (v := (I (list_0.length : Int))) (rv_len Try.underlying32 rfl) ?_
   refine st (v := (B (decide (s70.2 < (list_0.length : Int))))) (rv_lss (a := s70.2) (b := (list_0.length : Int)) rfl rfl) ?_
   refine w_end ?_
   refine q_then ?_
   refine cd_cond (decide (s70.2 < (list_0.length : Int))) rfl (fun hb74 => ?_) (fun hb74 => ?_)
   ·replace h := bif_t hb74 h
    refine c_skip ?_
    refine q_then ?_
    refine c_seq ?_
    obtain ⟨o75, hj, h'⟩ := bind_some h
    clear h
    refine c_cut (fun e a w => e = .normal ∧ ∃ (ρ : Nat → Value) (σ : St) (aj1 : Option Addr) (cj2 : Nat), a = fr 59 (updL ρ [(0, (Sl alist_0 list_0 clist_0)), (3, (pt b1 0)), (5, (Sl aj1 o75 cj2)), (7, (I s70.2))]) ∧ w = σ.w ∧ Hp S0 σ0 σ [Ch.ro 0 (Sl alist_0 list_0 clist_0) list_0, Ch.ro 0 (Sl ax_1_1 x_1.2.1 cx_1_1) x_1.2.1, Ch.bx n0 b1 0 [(I x_1.1), (Sl ax_1_1 x_1.2.1 cx_1_1), (I x_1.2.2)] [] [], Ch.own n0 n0 (Sl aj1 o75 cj2) o75]) ?_ ?_
    ·clear h'
     rename _ = some o75 => h
     refine c_blk ?_
     refine c_seq ?_
     refine rgP (σ := σ71) 7 (by kernel_rfl) (by kernel_rfl) (by kernel_rfl) ?_
     refine sq (v := (Sl alist_0 list_0 clist_0)) (rv_move rfl) ?_
     refine sq (v := (I s70.2)) (rv_move rfl) ?_
     obtain ⟨x76, hx77, h'⟩ := bind_some h
     clear h
     have h := h'; clear h'
     obtain ⟨b79, o80, hi78, -⟩ := (H.ro 0 rfl).ix hx77
     refine sq (v := (pt b79 o80)) (rv_ix Try.underlying32 ti36 rfl rfl hi78) ?_
     refine sq (v := (pt b79 (o80 + 0))) (rv_fieldAddr (off := 0) (ft := 3) Try.underlying36 rfl ti3 rfl rfl) ?_
     have hc81 := ((H.ro 0 rfl).at hx77 hi78).fst.int
     refine sq (v := (I x76.1)) (rv_load1 Try.underlying3 rfl rfl hc81) ?_
     refine sq (v := (pt b1 0)) (rv_fieldAddr (off := 0) (ft := 3) Try.underlying36 rfl ti3 rfl rfl) ?_
     have hc82 := H.cell (u := (I x_1.1)) (o' := 0) 2 0 rfl rfl rfl
     refine sq (v := (I x_1.1)) (rv_load1 Try.underlying3 rfl rfl hc82) ?_
     refine sq_end ?_
     intro σ83 hm84
     replace H := H.grow (hm84.mono fun _ h => h); clear hm84
     refine st (v := (B (decide (x_1.1 < x76.1)))) (rv_gtr (a := x76.1) (b := x_1.1) rfl rfl) ?_
     refine w_end ?_
     refine q_then ?_
     refine cd_cond (decide (x_1.1 < x76.1)) rfl (fun hb85 => ?_) (fun hb85 => ?_)
     ·replace h := bif_t hb85 h
      refine rg ?_
      refine st (v := (Sl a72 s70.1 c73)) (rv_move rfl) ?_
      refine st (v := (Sl alist_0 list_0 clist_0)) (rv_move rfl) ?_
      refine st (v := (I s70.2)) (rv_move rfl) ?_
      obtain ⟨x86, hx87, h'⟩ := bind_some h
      clear h
      have h := h'; clear h'
      obtain ⟨b89, o90, hi88, -⟩ := (H.ro 0 rfl).ix hx87
      refine st (v := (pt b89 o90)) (rv_ix Try.underlying32 ti36 rfl rfl hi88) ?_
      obtain ⟨_, ⟨_, _, rfl, rfl, ⟨_, _, rfl, ⟨_, rfl, hR95⟩, rfl⟩⟩, hl91, hc92⟩ := ((H.ro 0 rfl).at hx87 hi88).cells
      obtain ⟨a93, c94, rfl⟩ := hR95.isSl
      replace H := H.add (d := Ch.ro 0 (Sl a93 x86.2.1 c94) x86.2.1) hR95 (fun _ h => h)
      clear hR95
      refine st (v := (.agg #[(I x86.1), (Sl a93 x86.2.1 c94), (I x86.2.2)])) (rv_load Try.underlying36 rfl ti36 rfl hl91 hc92) ?_
      obtain ⟨r96, hx97, h'⟩ := bind_some h
      clear h
      have h := h'; clear h'
      have hc98 := c_spec_copyItem (ax_0_1 := a93) (cx_0_1 := c94) hx97
      refine st_call (cx_call hc98 (ent_f hc98.fn rfl) hn0 (show Hp S0 σ0 _ ([Ch.ro 0 (Sl a93 x86.2.1 c94) x86.2.1] ++ [Ch.ro 0 (Sl a93 x86.2.1 c94) x86.2.1, Ch.ro 0 (Sl alist_0 list_0 clist_0) list_0, Ch.ro 0 (Sl ax_1_1 x_1.2.1 cx_1_1) x_1.2.1, Ch.bx n0 b1 0 [(I x_1.1), (Sl ax_1_1 x_1.2.1 cx_1_1), (I x_1.2.2)] [] [], Ch.own n0 n0 (Sl a72 s70.1 c73) s70.1]) from (H.sel' [0, 0, 1, 2, 3, 4] rfl rfl))) wn ?_
      rintro _ σ101 ⟨_, ⟨a99, c100, rfl, rfl⟩, H, -⟩
      replace H : Hp S0 σ0 σ101 [Ch.own n0 n0 (Sl a99 r96.2.1 c100) r96.2.1, Ch.ro 0 (Sl a93 x86.2.1 c94) x86.2.1, Ch.ro 0 (Sl alist_0 list_0 clist_0) list_0, Ch.ro 0 (Sl ax_1_1 x_1.2.1 cx_1_1) x_1.2.1, Ch.bx n0 b1 0 [(I x_1.1), (Sl ax_1_1 x_1.2.1 cx_1_1), (I x_1.2.2)] [] [], Ch.own n0 n0 (Sl a72 s70.1 c73) s70.1] := H
      obtain ⟨σ102, hw103, H, -⟩ := H.pub 0 rfl (Nat.le_refl _)
      rw [← hw103]; clear hw103
      refine st_ex (ex_buildSlice (el := n0) (xs := ([(r96.1, r96.2.1, r96.2.2)] : List (Int × (List Int) × Int))) (ps := [(0, (.agg #[(I r96.1), (Sl a99 r96.2.1 c100), (I r96.2.2)]))]) (cs := [(I r96.1), (Sl a99 r96.2.1 c100), (I r96.2.2)]) H hn0 Try.underlying32 ti36 rfl rfl (by kernel_rfl) (.cons (c := [(I r96.1), (Sl a99 r96.2.1 c100), (I r96.2.2)]) ⟨[(I r96.1)], [(Sl a99 r96.2.1 c100), (I r96.2.2)], rfl, rfl, ⟨[(Sl a99 r96.2.1 c100)], [(I r96.2.2)], rfl, ⟨_, rfl, (H.ro 0 rfl)⟩, rfl⟩⟩ (.nil)) rfl) wn ?_
      rintro _ σ105 ⟨b104, rfl, H, -⟩
      obtain ⟨xs106, hx107, h'⟩ := bind_some h
      clear h
      have h := h'; clear h'
      refine st_ex (ex_append H (i := 6) rfl Try.underlying32 Try.underlying32 ti36 rfl rfl (by decide) (H.own 0 rfl).rd hx107 hn0 rfl rfl) wn ?_
      rintro _ σ110 ⟨a108, c109, rfl, H, -⟩
      refine st (v := (Sl a108 xs106 c109)) (rv_assign rfl) ?_
      refine w_end ?_
      refine q_blk ?_
      obtain rfl := Option.some.inj h
      exact ⟨rfl, _, σ110, a108, c109, fr_join ⟨rfl, rfl, rfl, rfl, trivial⟩, rfl, H.sel' [4, 5, 6, 0] rfl rfl⟩
     ·replace h := bif_f hb85 h
      refine c_skip ?_
      refine q_blk ?_
      obtain rfl := Option.some.inj h
      exact ⟨rfl, _, σ83, a72, c73, fr_join ⟨rfl, rfl, rfl, rfl, trivial⟩, rfl, H.sel' [0, 1, 2, 3] rfl rfl⟩
    ·clear hj
     have h := h'
     clear h' H
     rintro e a w ⟨rfl, ρ, σ111, a112, c113, rfl, rfl, H⟩
     refine q_then ?_
     refine rg ?_
     refine st (v := (I s70.2)) (rv_move rfl) ?_
     refine st (v := (I (w64 (s70.2 + 1)))) (rv_add (a := s70.2) (b := 1) rfl rfl) ?_
     refine st (v := (I (w64 (s70.2 + 1)))) (rv_assign rfl) ?_
     refine w_end ?_
     refine q_then ?_
     obtain rfl := Option.some.inj h
     exact ⟨_, rfl, _, σ111, a112, c113, fr_join ⟨rfl, rfl, rfl, rfl, trivial⟩, rfl, H.sel' [0, 1, 2, 3] rfl rfl⟩
   ·replace h := bif_f hb74 h
    refine c_exit ?_
    refine q_then_x ?_
    refine q_then_x ?_
    refine q_blk_hit ?_
    obtain rfl := Option.some.inj h
    obtain rfl := hres _ rfl
    exact ⟨rfl, _, σ71, a72, c73, fr_join ⟨rfl, trivial⟩, rfl, H.sel' [3] rfl rfl⟩
  ·clear hj
   have h := h'
   clear h' H
   rintro e a w ⟨rfl, ρ, σ114, a115, c116, rfl, rfl, H⟩
   refine q_then ?_
   refine c_seq ?_
   refine rg ?_
   refine st (v := (Sl a115 o69 c116)) (rv_move rfl) ?_
   refine st (v := (Sl a115 o69 c116)) (rv_assign rfl) ?_
   refine w_end ?_
   refine q_then ?_
   refine c_ret ?_
   obtain rfl := Option.some.inj h
   exact fin_ret (v := (Sl a115 o69 c116)) (results_ok Try.results113 (res_tmp (v := (Sl a115 o69 c116)) rfl res_nil) rfl) ⟨a115, c116, rfl, rfl⟩ (H.sel' [0] rfl rfl)

theorem c_spec_PutItem {list_0 : List (Int × (List Int) × Int)} {x_1 : Int × (List Int) × Int} {alist_0 : Option Addr} {clist_0 : Nat} {ax_1_1 : Option Addr} {cx_1_1 : Nat} {r : (List (Int × (List Int) × Int)) × Bool} (h : M.spec_PutItem list_0 x_1 = some r) :
    Cal2 Try.prog 103 [(Sl alist_0 list_0 clist_0), (.agg #[(I x_1.1), (Sl ax_1_1 x_1.2.1 cx_1_1), (I x_1.2.2)])] [Ch.ro 0 (Sl alist_0 list_0 clist_0) list_0, Ch.ro 0 (Sl ax_1_1 x_1.2.1 cx_1_1) x_1.2.1] (fun n0 v L => ∃ (az1 : Option Addr), ∃ (cz2 : Nat), v = (.tuple #[(Sl az1 r.1 cz2), (B r.2)]) ∧ L = [Ch.own n0 n0 (Sl az1 r.1 cz2) r.1]) := by
 refine cal2 (n := 22) Try.func103 rfl rfl rfl rfl ?_
 intro S0 σ0 n0 hn0 H
 unfold M.spec_PutItem at h
 refine c_seq ?_
 refine rg ?_
 refine st_ex (ex_box (cs := [(I x_1.1), (Sl ax_1_1 x_1.2.1 cx_1_1), (I x_1.2.2)]) H hn0 rfl rfl) wn ?_
 rintro _ σ2 ⟨b1, rfl, H, -⟩
 refine st (v := (.slice none 0 0)) (rv_assign rfl) ?_
 refine st (v := (B false)) (rv_assign rfl) ?_
 refine w_end ?_
 refine q_then ?_
 refine c_seq ?_
 refine c_seq ?_
 obtain ⟨o3, hj, h'⟩ := bind_some h
 clear h
 refine c_cut (fun e a w => e = .normal ∧ ∃ (ρ : Nat → Value) (σ : St), a = fr 22 (updL ρ [(0, (Sl alist_0 list_0 clist_0)), (3, (pt b1 0)), (14, (B o3))]) ∧ w = σ.w ∧ Hp S0 σ0 σ [Ch.ro 0 (Sl alist_0 list_0 clist_0) list_0, Ch.ro 0 (Sl ax_1_1 x_1.2.1 cx_1_1) x_1.2.1, Ch.bx n0 b1 0 [(I x_1.1), (Sl ax_1_1 x_1.2.1 cx_1_1), (I x_1.2.2)] [] []]) ?_ ?_
 ·clear h'
  rename _ = some o3 => h
  refine rg ?_
  refine st (v := (Sl alist_0 list_0 clist_0)) (rv_move rfl) ?_
  obtain ⟨r4, hx5, h'⟩ := bind_some h
  clear h
  have h := h'; clear h'
  have hc6 := c_spec_validStore (alist_0 := alist_0) (clist_0 := clist_0) hx5
  refine st_call (cx_call hc6 (ent_f hc6.fn rfl) hn0 (show Hp S0 σ0 _ ([Ch.ro 0 (Sl alist_0 list_0 clist_0) list_0] ++ [Ch.bx n0 b1 0 [(I x_1.1), (Sl ax_1_1 x_1.2.1 cx_1_1), (I x_1.2.2)] [] [], Ch.ro 0 (Sl alist_0 list_0 clist_0) list_0, Ch.ro 0 (Sl ax_1_1 x_1.2.1 cx_1_1) x_1.2.1]) from (H.sel' [1, 0, 1, 2] rfl rfl))) wn ?_
  rintro _ σ7 ⟨_, ⟨rfl, rfl⟩, H, -⟩
  replace H : Hp S0 σ0 σ7 [Ch.bx n0 b1 0 [(I x_1.1), (Sl ax_1_1 x_1.2.1 cx_1_1), (I x_1.2.2)] [] [], Ch.ro 0 (Sl alist_0 list_0 clist_0) list_0, Ch.ro 0 (Sl ax_1_1 x_1.2.1 cx_1_1) x_1.2.1] := H
  refine st (v := (B (!r4))) (rv_not rfl) ?_
  refine st (v := (B (!r4))) (rv_move rfl) ?_
  rcases Bool.eq_false_or_eq_true (!r4) with hb8 | hb8
  ·replace h := bif_t hb8 h
   refine st_skip (congrArg some hb8) ?_
   refine st_skip (congrArg some hb8) ?_
   refine st_skip (congrArg some hb8) ?_
   refine st (v := (B true)) (rv_pick_t (congrArg B hb8) rfl) ?_
   refine w_end ?_
   obtain rfl := Option.some.inj h
   exact ⟨rfl, _, σ7, fr_join ⟨rfl, rfl, rfl, trivial⟩, rfl, H.sel' [1, 2, 0] rfl rfl⟩
  ·replace h := bif_f hb8 h
   have hc9 := H.cells 0 rfl
   refine st_g (v := (.agg #[(I x_1.1), (Sl ax_1_1 x_1.2.1 cx_1_1), (I x_1.2.2)])) (congrArg some hb8) (rv_load (cs := [(I x_1.1), (Sl ax_1_1 x_1.2.1 cx_1_1), (I x_1.2.2)]) Try.underlying36 rfl ti36 rfl rfl hc9) ?_
   obtain ⟨r10, hx11, h'⟩ := bind_some h
   clear h
   have h := h'; clear h'
   have hc12 := c_spec_validItem (ax_0_1 := ax_1_1) (cx_0_1 := cx_1_1) hx11
   refine st_call (cx_call hc12 (ent_f hc12.fn rfl) hn0 (show Hp S0 σ0 _ ([Ch.ro 0 (Sl ax_1_1 x_1.2.1 cx_1_1) x_1.2.1] ++ [Ch.bx n0 b1 0 [(I x_1.1), (Sl ax_1_1 x_1.2.1 cx_1_1), (I x_1.2.2)] [] [], Ch.ro 0 (Sl alist_0 list_0 clist_0) list_0, Ch.ro 0 (Sl ax_1_1 x_1.2.1 cx_1_1) x_1.2.1]) from (H.sel' [2, 0, 1, 2] rfl rfl))) (wanted_yes rfl (by exact (congrArg some hb8))) ?_
   rintro _ σ13 ⟨_, ⟨rfl, rfl⟩, H, -⟩
   replace H : Hp S0 σ0 σ13 [Ch.bx n0 b1 0 [(I x_1.1), (Sl ax_1_1 x_1.2.1 cx_1_1), (I x_1.2.2)] [] [], Ch.ro 0 (Sl alist_0 list_0 clist_0) list_0, Ch.ro 0 (Sl ax_1_1 x_1.2.1 cx_1_1) x_1.2.1] := H
   refine st_g (v := (B (!r10))) (congrArg some hb8) (rv_not rfl) ?_
   refine st (v := (B (!r10))) (rv_pick_f (congrArg B hb8) rfl) ?_
   refine w_end ?_
   obtain rfl := Option.some.inj h
   exact ⟨rfl, _, σ13, fr_join ⟨rfl, rfl, rfl, trivial⟩, rfl, H.sel' [1, 2, 0] rfl rfl⟩
 ·clear hj
  have h := h'
  clear h' H
  rintro e a w ⟨rfl, ρ, σ14, rfl, rfl, H⟩
  refine q_then ?_
  refine cd_cond o3 rfl (fun hb15 => ?_) (fun hb15 => ?_)
  ·replace h := bif_t hb15 h
   refine c_seq ?_
   refine rg ?_
   refine st (v := (.slice none 0 0)) (rv_assign rfl) ?_
   refine st (v := (B false)) (rv_assign rfl) ?_
   refine w_end ?_
   refine q_then ?_
   refine c_ret ?_
   refine q_then_r ?_
   replace H := H.nilOwn (Int × (List Int) × Int) n0 n0
   obtain rfl := Option.some.inj h
   exact fin_ret (v := (.tuple #[(.slice none 0 0), (B false)])) (results_ok Try.results103 (res_tmp (v := (.slice none 0 0)) rfl (res_tmp (v := (B false)) rfl res_nil)) rfl) ⟨none, 0, rfl, rfl⟩ (H.sel' [0] rfl rfl)
  ·replace h := bif_f hb15 h
   refine c_skip ?_
   refine q_then ?_
   refine c_seq ?_
   refine rg ?_
   refine st (v := (Sl alist_0 list_0 clist_0)) (rv_move rfl) ?_
   have hc16 := H.cells 2 rfl
   refine st (v := (.agg #[(I x_1.1), (Sl ax_1_1 x_1.2.1 cx_1_1), (I x_1.2.2)])) (rv_load (cs := [(I x_1.1), (Sl ax_1_1 x_1.2.1 cx_1_1), (I x_1.2.2)]) Try.underlying36 rfl ti36 rfl rfl hc16) ?_
   obtain ⟨r17, hx18, h'⟩ := bind_some h
   clear h
   have h := h'; clear h'
   have hc19 := c_spec_put (alist_0 := alist_0) (clist_0 := clist_0) (ax_1_1 := ax_1_1) (cx_1_1 := cx_1_1) hx18
   refine st_call (cx_call hc19 (ent_f hc19.fn rfl) hn0 (show Hp S0 σ0 _ ([Ch.ro 0 (Sl alist_0 list_0 clist_0) list_0, Ch.ro 0 (Sl ax_1_1 x_1.2.1 cx_1_1) x_1.2.1] ++ [Ch.ro 0 (Sl alist_0 list_0 clist_0) list_0, Ch.ro 0 (Sl ax_1_1 x_1.2.1 cx_1_1) x_1.2.1, Ch.bx n0 b1 0 [(I x_1.1), (Sl ax_1_1 x_1.2.1 cx_1_1), (I x_1.2.2)] [] []]) from (H.sel' [0, 1, 0, 1, 2] rfl rfl))) wn ?_
   rintro _ σ22 ⟨_, ⟨a20, c21, rfl, rfl⟩, H, -⟩
   replace H : Hp S0 σ0 σ22 [Ch.own n0 n0 (Sl a20 r17 c21) r17, Ch.ro 0 (Sl alist_0 list_0 clist_0) list_0, Ch.ro 0 (Sl ax_1_1 x_1.2.1 cx_1_1) x_1.2.1, Ch.bx n0 b1 0 [(I x_1.1), (Sl ax_1_1 x_1.2.1 cx_1_1), (I x_1.2.2)] [] []] := H
   refine st (v := (Sl a20 r17 c21)) (rv_assign rfl) ?_
   refine w_end ?_
   refine q_then ?_
   refine c_seq ?_
   refine c_seq ?_
   refine rg ?_
   refine st (v := (Sl a20 r17 c21)) (rv_move rfl) ?_
   obtain ⟨r23, hx24, h'⟩ := bind_some h
   clear h
   have h := h'; clear h'
   have hc25 := c_spec_validStore (alist_0 := a20) (clist_0 := c21) hx24
   have hle := Nat.le_trans hn0 H.size
   refine st_call (cx_lend (Loan.lend Loan.nil) hc25 (ent_f hc25.fn rfl) (show Hp S0 σ0 _ ([Ch.own n0 n0 (Sl a20 r17 c21) r17] ++ ([] ++ [Ch.ro 0 (Sl alist_0 list_0 clist_0) list_0, Ch.ro 0 (Sl ax_1_1 x_1.2.1 cx_1_1) x_1.2.1, Ch.bx n0 b1 0 [(I x_1.1), (Sl ax_1_1 x_1.2.1 cx_1_1), (I x_1.2.2)] [] []])) from (H.sel' [0, 1, 2, 3] rfl rfl)) (by rintro _ _ _ ⟨rfl, rfl⟩; exact trivial)) wn ?_
   rintro _ σ26 ⟨_, ⟨rfl, rfl⟩, H, -, -⟩
   replace H : Hp S0 σ0 σ26 [Ch.own n0 n0 (Sl a20 r17 c21) r17, Ch.ro 0 (Sl alist_0 list_0 clist_0) list_0, Ch.ro 0 (Sl ax_1_1 x_1.2.1 cx_1_1) x_1.2.1, Ch.bx n0 b1 0 [(I x_1.1), (Sl ax_1_1 x_1.2.1 cx_1_1), (I x_1.2.2)] [] []] := H
   clear hle
   replace H : Hp S0 σ0 σ26 [Ch.own n0 n0 (Sl a20 r17 c21) r17, Ch.ro 0 (Sl alist_0 list_0 clist_0) list_0, Ch.ro 0 (Sl ax_1_1 x_1.2.1 cx_1_1) x_1.2.1, Ch.bx n0 b1 0 [(I x_1.1), (Sl ax_1_1 x_1.2.1 cx_1_1), (I x_1.2.2)] [] []] := H
   refine st (v := (B (!r23))) (rv_not rfl) ?_
   refine w_end ?_
   refine q_then ?_
   refine cd_cond (!r23) rfl (fun hb27 => ?_) (fun hb27 => ?_)
   ·replace h := bif_t hb27 h
    refine c_seq ?_
    refine rg ?_
    refine st (v := (.slice none 0 0)) (rv_assign rfl) ?_
    refine st (v := (B false)) (rv_assign rfl) ?_
    refine w_end ?_
    refine q_then ?_
    refine c_ret ?_
    refine q_then_r ?_
    replace H := H.nilOwn (Int × (List Int) × Int) n0 n0
    obtain rfl := Option.some.inj h
    exact fin_ret (v := (.tuple #[(.slice none 0 0), (B false)])) (results_ok Try.results103 (res_tmp (v := (.slice none 0 0)) rfl (res_tmp (v := (B false)) rfl res_nil)) rfl) ⟨none, 0, rfl, rfl⟩ (H.sel' [0] rfl rfl)
   ·replace h := bif_f hb27 h
    refine c_skip ?_
    refine q_then ?_
    refine c_seq ?_
    refine rg ?_
    refine st (v := (Sl a20 r17 c21)) (rv_move rfl) ?_
    refine st (v := (Sl a20 r17 c21)) (rv_assign rfl) ?_
    refine st (v := (B true)) (rv_assign rfl) ?_
    refine w_end ?_
    refine q_then ?_
    refine c_ret ?_
    obtain rfl := Option.some.inj h
    exact fin_ret (v := (.tuple #[(Sl a20 r17 c21), (B true)])) (results_ok Try.results103 (res_tmp (v := (Sl a20 r17 c21)) rfl (res_tmp (v := (B true)) rfl res_nil)) rfl) ⟨a20, c21, rfl, rfl⟩ (H.sel' [0] rfl rfl)

theorem c_spec_keyAt {list_0 : List (Int × (List Int) × Int)} {key_1 : Int} {alist_0 : Option Addr} {clist_0 : Nat} {r : Int} (h : M.spec_keyAt list_0 key_1 = some r) :
    Cal2 Try.prog 46 [(Sl alist_0 list_0 clist_0), (I key_1)] [Ch.ro 0 (Sl alist_0 list_0 clist_0) list_0] (fun n0 v L => v = (I r) ∧ L = []) := by
 refine cal2 (n := 20) Try.func46 rfl rfl rfl rfl ?_
 intro S0 σ0 n0 hn0 H
 unfold M.spec_keyAt at h
 refine c_seq ?_
 refine rg ?_
 refine st (v := (I 0)) (rv_assign rfl) ?_
 refine w_end ?_
 refine q_then ?_
 refine c_seq ?_
 refine c_seq ?_
 refine rg ?_
 refine st (v := (I 0)) (rv_assign rfl) ?_
 refine w_end ?_
 refine q_then ?_
 obtain ⟨o1, hj, h'⟩ := bind_some h
 clear h
 refine c_cut (fun e a w => (∃ t, o1 = (.inl t) ∧ e = .normal ∧ ∃ (ρ : Nat → Value) (σ : St), a = fr 20 (updL ρ []) ∧ w = σ.w ∧ Hp S0 σ0 σ []) ∨ (∃ t, o1 = (.inr t) ∧ e = .ret ∧ ∃ (ρ : Nat → Value) (σ : St), a = fr 20 (updL ρ [(4, (I t))]) ∧ w = σ.w ∧ Hp S0 σ0 σ [])) ?_ ?_
 ·clear h'
  rename _ = some o1 => h
  refine c_blk ?_
  refine wp_loopM _ h (fun s2 a w => ∃ (ρ : Nat → Value) (σ : St), a = fr 20 (updL ρ [(0, (Sl alist_0 list_0 clist_0)), (1, (I key_1)), (5, (I s2))]) ∧ w = σ.w ∧ Hp S0 σ0 σ [Ch.ro 0 (Sl alist_0 list_0 clist_0) list_0]) ⟨_, σ0, fr_join ⟨rfl, rfl, rfl, trivial⟩, rfl, H.sel' [0] rfl rfl⟩ ?_
  clear h H
  rintro s2 a w o ⟨ρ, σ3, rfl, rfl, H⟩ h hres
  refine c_seq ?_
  refine c_seq ?_
  refine rg ?_
  refine st (v := (I s2)) (rv_move rfl) ?_
  refine st (v := (Sl alist_0 list_0 clist_0)) (rv_move rfl) ?_
  refine st (v := (I (list_0.length : Int))) (rv_len Try.underlying32 rfl) ?_
  refine st (v := (B (decide (s2 < (list_0.length : Int))))) (rv_lss (a := s2) (b := (list_0.length : Int)) rfl rfl) ?_
  refine w_end ?_
  refine q_then ?_
  refine cd_cond (decide (s2 < (list_0.length : Int))) rfl (fun hb4 => ?_) (fun hb4 => ?_)
  ·replace h := bif_t hb4 h
   refine c_skip ?_
   refine q_then ?_
   refine c_seq ?_
   refine c_blk ?_
   refine c_seq ?_
   refine rg ?_
   refine st (v := (Sl alist_0 list_0 clist_0)) (rv_move rfl) ?_
   refine st (v := (I s2)) (rv_move rfl) ?_
   obtain ⟨x5, hx6, h'⟩ := bind_some h
   clear h
   have h := h'; clear h'
   obtain ⟨b8, o9, hi7, -⟩ := (H.ro 0 rfl).ix hx6
   refine st (v := (pt b8 o9)) (rv_ix Try.underlying32 ti36 rfl rfl hi7) ?_
   refine st (v := (pt b8 (o9 + 0))) (rv_fieldAddr (off := 0) (ft := 3) Try.underlying36 rfl ti3 rfl rfl) ?_
   have hc10 := ((H.ro 0 rfl).at hx6 hi7).fst.int
   refine st (v := (I x5.1)) (rv_load1 Try.underlying3 rfl rfl hc10) ?_
   refine st (v := (I key_1)) (rv_move rfl) ?_
   refine st (v := (B (x5.1 == key_1))) (rv_eql (a := x5.1) (b := key_1) rfl rfl) ?_
   refine w_end ?_
   refine q_then ?_
   refine cd_cond (x5.1 == key_1) rfl (fun hb11 => ?_) (fun hb11 => ?_)
   ·replace h := bif_t hb11 h
    refine c_seq ?_
    refine rg ?_
    refine st (v := (I s2)) (rv_move rfl) ?_
    refine st (v := (I s2)) (rv_assign rfl) ?_
    refine w_end ?_
    refine q_then ?_
    refine c_ret ?_
    refine q_blk_r ?_
    refine q_then_r ?_
    refine q_then_r ?_
    refine q_blk_r ?_
    obtain rfl := Option.some.inj h
    obtain rfl := hres _ rfl
    exact .inr (⟨_, rfl, rfl, _, σ3, fr_join ⟨rfl, trivial⟩, rfl, H.sel' [] rfl rfl⟩)
   ·replace h := bif_f hb11 h
    refine c_skip ?_
    refine q_blk ?_
    refine q_then ?_
    refine rg ?_
    refine st (v := (I s2)) (rv_move rfl) ?_
    refine st (v := (I (w64 (s2 + 1)))) (rv_add (a := s2) (b := 1) rfl rfl) ?_
    refine st (v := (I (w64 (s2 + 1)))) (rv_assign rfl) ?_
    refine w_end ?_
    refine q_then ?_
    obtain rfl := Option.some.inj h
    exact ⟨_, rfl, _, σ3, fr_join ⟨rfl, rfl, rfl, trivial⟩, rfl, H.sel' [0] rfl rfl⟩
  ·replace h := bif_f hb4 h
   refine c_exit ?_
   refine q_then_x ?_
   refine q_then_x ?_
   refine q_blk_hit ?_
   obtain rfl := Option.some.inj h
   obtain rfl := hres _ rfl
   exact .inl ⟨_, rfl, rfl, _, σ3, fr_join trivial, rfl, H.sel' [] rfl rfl⟩
 ·clear hj
  have h := h'
  clear h' H
  rintro e a w (⟨t12, rfl, rfl, ρ, σ13, rfl, rfl, H⟩ | ⟨t14, rfl, rfl, ρ, σ15, rfl, rfl, H⟩)
  ·replace h := selim_l h
   refine q_then ?_
   refine c_seq ?_
   refine rg ?_
   refine st (v := (I (-1))) (rv_assign rfl) ?_
   refine w_end ?_
   refine q_then ?_
   refine c_ret ?_
   obtain rfl := Option.some.inj h
   exact fin_ret (v := (I (-1))) (results_ok Try.results46 (res_tmp (v := (I (-1))) rfl res_nil) rfl) ⟨rfl, rfl⟩ (H.sel' [] rfl rfl)
  ·replace h := selim_r h
   refine q_then_r ?_
   obtain rfl := Option.some.inj h
   exact fin_ret (v := (I t14)) (results_ok Try.results46 (res_tmp (v := (I t14)) rfl res_nil) rfl) ⟨rfl, rfl⟩ (H.sel' [] rfl rfl)

theorem c_spec_DropItem {list_0 : List (Int × (List Int) × Int)} {key_1 : Int} {alist_0 : Option Addr} {clist_0 : Nat} {r : (List (Int × (List Int) × Int)) × Bool} (h : M.spec_DropItem list_0 key_1 = some r) :
    Cal2 Try.prog 104 [(Sl alist_0 list_0 clist_0), (I key_1)] [Ch.ro 0 (Sl alist_0 list_0 clist_0) list_0] (fun n0 v L => ∃ (az1 : Option Addr), ∃ (cz2 : Nat), v = (.tuple #[(Sl az1 r.1 cz2), (B r.2)]) ∧ L = [Ch.own n0 n0 (Sl az1 r.1 cz2) r.1]) := by
 refine cal2 (n := 40) Try.func104 rfl rfl rfl rfl ?_
 intro S0 σ0 n0 hn0 H
 unfold M.spec_DropItem at h
 refine c_seq ?_
 refine rg ?_
 refine st (v := (.slice none 0 0)) (rv_assign rfl) ?_
 refine st (v := (B false)) (rv_assign rfl) ?_
 refine w_end ?_
 refine q_then ?_
 refine c_seq ?_
 refine c_seq ?_
 obtain ⟨o1, hj, h'⟩ := bind_some h
 clear h
 refine c_cut (fun e a w => e = .normal ∧ ∃ (ρ : Nat → Value) (σ : St), a = fr 40 (updL ρ [(0, (Sl alist_0 list_0 clist_0)), (1, (I key_1)), (16, (B o1))]) ∧ w = σ.w ∧ Hp S0 σ0 σ [Ch.ro 0 (Sl alist_0 list_0 clist_0) list_0]) ?_ ?_
 ·clear h'
  rename _ = some o1 => h
  refine rg ?_
  refine st (v := (Sl alist_0 list_0 clist_0)) (rv_move rfl) ?_
  obtain ⟨r2, hx3, h'⟩ := bind_some h
  clear h
  have h := h'; clear h'
  have hc4 := c_spec_validStore (alist_0 := alist_0) (clist_0 := clist_0) hx3
  refine st_call (cx_call hc4 (ent_f hc4.fn rfl) hn0 (show Hp S0 σ0 _ ([Ch.ro 0 (Sl alist_0 list_0 clist_0) list_0] ++ [Ch.ro 0 (Sl alist_0 list_0 clist_0) list_0]) from (H.sel' [0, 0] rfl rfl))) wn ?_
  rintro _ σ5 ⟨_, ⟨rfl, rfl⟩, H, -⟩
  replace H : Hp S0 σ0 σ5 [Ch.ro 0 (Sl alist_0 list_0 clist_0) list_0] := H
  refine st (v := (B (!r2))) (rv_not rfl) ?_
  refine st (v := (B (!r2))) (rv_move rfl) ?_
  rcases Bool.eq_false_or_eq_true (!r2) with hb6 | hb6
  ·replace h := bif_t hb6 h
   refine st_skip (congrArg some hb6) ?_
   refine st_skip (congrArg some hb6) ?_
   refine st_skip (congrArg some hb6) ?_
   refine st_skip (congrArg some hb6) ?_
   refine st (v := (B true)) (rv_pick_t (congrArg B hb6) rfl) ?_
   refine w_end ?_
   obtain rfl := Option.some.inj h
   exact ⟨rfl, _, σ5, fr_join ⟨rfl, rfl, rfl, trivial⟩, rfl, H.sel' [0] rfl rfl⟩
  ·replace h := bif_f hb6 h
   refine st_g (v := (Sl alist_0 list_0 clist_0)) (congrArg some hb6) (rv_move rfl) ?_
   refine st_g (v := (I key_1)) (congrArg some hb6) (rv_move rfl) ?_
   obtain ⟨r7, hx8, h'⟩ := bind_some h
   clear h
   have h := h'; clear h'
   have hc9 := c_spec_keyAt (alist_0 := alist_0) (clist_0 := clist_0) hx8
   refine st_call (cx_call hc9 (ent_f hc9.fn rfl) hn0 (show Hp S0 σ0 _ ([Ch.ro 0 (Sl alist_0 list_0 clist_0) list_0] ++ [Ch.ro 0 (Sl alist_0 list_0 clist_0) list_0]) from (H.sel' [0, 0] rfl rfl))) (wanted_yes rfl (by exact (congrArg some hb6))) ?_
   rintro _ σ10 ⟨_, ⟨rfl, rfl⟩, H, -⟩
   replace H : Hp S0 σ0 σ10 [Ch.ro 0 (Sl alist_0 list_0 clist_0) list_0] := H
   refine st_g (v := (B (decide (r7 < 0)))) (congrArg some hb6) (rv_lss (a := r7) (b := 0) rfl rfl) ?_
   refine st (v := (B (decide (r7 < 0)))) (rv_pick_f (congrArg B hb6) rfl) ?_
   refine w_end ?_
   obtain rfl := Option.some.inj h
   exact ⟨rfl, _, σ10, fr_join ⟨rfl, rfl, rfl, trivial⟩, rfl, H.sel' [0] rfl rfl⟩
 ·clear hj
  have h := h'
  clear h' H
  rintro e a w ⟨rfl, ρ, σ11, rfl, rfl, H⟩
  refine q_then ?_
  refine cd_cond o1 rfl (fun hb12 => ?_) (fun hb12 => ?_)
  ·replace h := bif_t hb12 h
   refine c_seq ?_
   refine rg ?_
   refine st (v := (.slice none 0 0)) (rv_assign rfl) ?_
   refine st (v := (B false)) (rv_assign rfl) ?_
   refine w_end ?_
   refine q_then ?_
   refine c_ret ?_
   refine q_then_r ?_
   replace H := H.nilOwn (Int × (List Int) × Int) n0 n0
   obtain rfl := Option.some.inj h
   exact fin_ret (v := (.tuple #[(.slice none 0 0), (B false)])) (results_ok Try.results104 (res_tmp (v := (.slice none 0 0)) rfl (res_tmp (v := (B false)) rfl res_nil)) rfl) ⟨none, 0, rfl, rfl⟩ (H.sel' [0] rfl rfl)
  ·replace h := bif_f hb12 h
   refine c_skip ?_
   refine q_then ?_
   refine c_seq ?_
   refine rg ?_
   refine st_ex (ex_buildSlice (el := n0) (xs := ([] : List (Int × (List Int) × Int))) (ps := []) (cs := []) H hn0 Try.underlying32 ti36 rfl rfl (by kernel_rfl) (.nil) rfl) wn ?_
   rintro _ σ14 ⟨b13, rfl, H, -⟩
   refine st (v := (Sl (some ⟨b13, 0, none⟩) ([] : List (Int × (List Int) × Int)) 0)) (rv_assign rfl) ?_
   refine w_end ?_
   refine q_then ?_
   refine c_seq ?_
   refine c_seq ?_
   refine rg ?_
   refine st (v := (I 0)) (rv_assign rfl) ?_
   refine w_end ?_
   refine q_then ?_
   obtain ⟨o15, hj, h'⟩ := bind_some h
   clear h
   refine c_cut (fun e a w => e = .normal ∧ ∃ (ρ : Nat → Value) (σ : St) (aj1 : Option Addr) (cj2 : Nat), a = fr 40 (updL ρ [(6, (Sl aj1 o15 cj2))]) ∧ w = σ.w ∧ Hp S0 σ0 σ [Ch.own n0 n0 (Sl aj1 o15 cj2) o15]) ?_ ?_
   ·clear h'
    rename _ = some o15 => h
    refine c_blk ?_
    refine wp_loopM _ h (fun s16 a w => ∃ (ρ : Nat → Value) (σ : St) (aj1 : Option Addr) (cj2 : Nat), a = fr 40 (updL ρ [(0, (Sl alist_0 list_0 clist_0)), (1, (I key_1)), (6, (Sl aj1 s16.1 cj2)), (7, (I s16.2))]) ∧ w = σ.w ∧ Hp S0 σ0 σ [Ch.ro 0 (Sl alist_0 list_0 clist_0) list_0, Ch.own n0 n0 (Sl aj1 s16.1 cj2) s16.1]) ⟨_, σ14, (some ⟨b13, 0, none⟩), 0, fr_join ⟨rfl, rfl, rfl, rfl, trivial⟩, rfl, H.sel' [1, 0] rfl rfl⟩ ?_
    clear h H
    rintro s16 a w o ⟨ρ, σ17, a18, c19, rfl, rfl, H⟩ h hres
    refine c_seq ?_
    refine c_seq ?_
    refine rg ?_
    refine st (v := (I s16.2)) (rv_move rfl) ?_
    refine st (v := (Sl alist_0 list_0 clist_0)) (rv_move rfl) ?_
    refine st (v := (I (list_0.length : Int))) (rv_len Try.underlying32 rfl) ?_
    refine st (v := (B (decide (s16.2 < (list_0.length : Int))))) (rv_lss (a := s16.2) (b := (list_0.length : Int)) rfl rfl) ?_
    refine w_end ?_
    refine q_then ?_
    refine cd_cond (decide (s16.2 < (list_0.length : Int))) rfl (fun hb20 => ?_) (fun hb20 => ?_)
    ·replace h := bif_t hb20 h
     refine c_skip ?_
     refine q_then ?_
     refine c_seq ?_
     obtain ⟨o21, hj, h'⟩ := bind_some h
     clear h
     refine c_cut (fun e a w => e = .normal ∧ ∃ (ρ : Nat → Value) (σ : St) (aj1 : Option Addr) (cj2 : Nat), a = fr 40 (updL ρ [(0, (Sl alist_0 list_0 clist_0)), (1, (I key_1)), (6, (Sl aj1 o21 cj2)), (7, (I s16.2))]) ∧ w = σ.w ∧ Hp S0 σ0 σ [Ch.ro 0 (Sl alist_0 list_0 clist_0) list_0, Ch.own n0 n0 (Sl aj1 o21 cj2) o21]) ?_ ?_
     ·clear h'
      rename _ = some o21 => h
      refine c_blk ?_
      refine c_seq ?_
      refine rg ?_
      refine st (v := (Sl alist_0 list_0 clist_0)) (rv_move rfl) ?_
      refine st (v := (I s16.2)) (rv_move rfl) ?_
      obtain ⟨x22, hx23, h'⟩ := bind_some h
      clear h
      have h := h'; clear h'
      obtain ⟨b25, o26, hi24, -⟩ := (H.ro 0 rfl).ix hx23
      refine st (v := (pt b25 o26)) (rv_ix Try.underlying32 ti36 rfl rfl hi24) ?_
      refine st (v := (pt b25 (o26 + 0))) (rv_fieldAddr (off := 0) (ft := 3) Try.underlying36 rfl ti3 rfl rfl) ?_
      have hc27 := ((H.ro 0 rfl).at hx23 hi24).fst.int
      refine st (v := (I x22.1)) (rv_load1 Try.underlying3 rfl rfl hc27) ?_
      refine st (v := (I key_1)) (rv_move rfl) ?_
      refine st (v := (B (x22.1 != key_1))) (rv_neq (a := x22.1) (b := key_1) rfl rfl) ?_
      refine w_end ?_
      refine q_then ?_
      refine cd_cond (x22.1 != key_1) rfl (fun hb28 => ?_) (fun hb28 => ?_)
      ·replace h := bif_t hb28 h
       refine rg ?_
       refine st (v := (Sl a18 s16.1 c19)) (rv_move rfl) ?_
       refine st (v := (Sl alist_0 list_0 clist_0)) (rv_move rfl) ?_
       refine st (v := (I s16.2)) (rv_move rfl) ?_
       obtain ⟨x29, hx30, h'⟩ := bind_some h
       clear h
       have h := h'; clear h'
       obtain ⟨b32, o33, hi31, -⟩ := (H.ro 0 rfl).ix hx30
       refine st (v := (pt b32 o33)) (rv_ix Try.underlying32 ti36 rfl rfl hi31) ?_
       obtain ⟨_, ⟨_, _, rfl, rfl, ⟨_, _, rfl, ⟨_, rfl, hR38⟩, rfl⟩⟩, hl34, hc35⟩ := ((H.ro 0 rfl).at hx30 hi31).cells
       obtain ⟨a36, c37, rfl⟩ := hR38.isSl
       replace H := H.add (d := Ch.ro 0 (Sl a36 x29.2.1 c37) x29.2.1) hR38 (fun _ h => h)
       clear hR38
       refine st (v := (.agg #[(I x29.1), (Sl a36 x29.2.1 c37), (I x29.2.2)])) (rv_load Try.underlying36 rfl ti36 rfl hl34 hc35) ?_
       obtain ⟨r39, hx40, h'⟩ := bind_some h
       clear h
       have h := h'; clear h'
       have hc41 := c_spec_copyItem (ax_0_1 := a36) (cx_0_1 := c37) hx40
       refine st_call (cx_call hc41 (ent_f hc41.fn rfl) hn0 (show Hp S0 σ0 _ ([Ch.ro 0 (Sl a36 x29.2.1 c37) x29.2.1] ++ [Ch.ro 0 (Sl a36 x29.2.1 c37) x29.2.1, Ch.ro 0 (Sl alist_0 list_0 clist_0) list_0, Ch.own n0 n0 (Sl a18 s16.1 c19) s16.1]) from (H.sel' [0, 0, 1, 2] rfl rfl))) wn ?_
       rintro _ σ44 ⟨_, ⟨a42, c43, rfl, rfl⟩, H, -⟩
       replace H : Hp S0 σ0 σ44 [Ch.own n0 n0 (Sl a42 r39.2.1 c43) r39.2.1, Ch.ro 0 (Sl a36 x29.2.1 c37) x29.2.1, Ch.ro 0 (Sl alist_0 list_0 clist_0) list_0, Ch.own n0 n0 (Sl a18 s16.1 c19) s16.1] := H
       obtain ⟨σ45, hw46, H, -⟩ := H.pub 0 rfl (Nat.le_refl _)
       rw [← hw46]; clear hw46
       refine st_ex (ex_buildSlice (el := n0) (xs := ([(r39.1, r39.2.1, r39.2.2)] : List (Int × (List Int) × Int))) (ps := [(0, (.agg #[(I r39.1), (Sl a42 r39.2.1 c43), (I r39.2.2)]))]) (cs := [(I r39.1), (Sl a42 r39.2.1 c43), (I r39.2.2)]) H hn0 Try.underlying32 ti36 rfl rfl (by kernel_rfl) (.cons (c := [(I r39.1), (Sl a42 r39.2.1 c43), (I r39.2.2)]) ⟨[(I r39.1)], [(Sl a42 r39.2.1 c43), (I r39.2.2)], rfl, rfl, ⟨[(Sl a42 r39.2.1 c43)], [(I r39.2.2)], rfl, ⟨_, rfl, (H.ro 0 rfl)⟩, rfl⟩⟩ (.nil)) rfl) wn ?_
       rintro _ σ48 ⟨b47, rfl, H, -⟩
       obtain ⟨xs49, hx50, h'⟩ := bind_some h
       clear h
       have h := h'; clear h'
       refine st_ex (ex_append H (i := 4) rfl Try.underlying32 Try.underlying32 ti36 rfl rfl (by decide) (H.own 0 rfl).rd hx50 hn0 rfl rfl) wn ?_
       rintro _ σ53 ⟨a51, c52, rfl, H, -⟩
       refine st (v := (Sl a51 xs49 c52)) (rv_assign rfl) ?_
       refine w_end ?_
       refine q_blk ?_
       obtain rfl := Option.some.inj h
       exact ⟨rfl, _, σ53, a51, c52, fr_join ⟨rfl, rfl, rfl, rfl, trivial⟩, rfl, H.sel' [4, 0] rfl rfl⟩
      ·replace h := bif_f hb28 h
       refine c_skip ?_
       refine q_blk ?_
       obtain rfl := Option.some.inj h
       exact ⟨rfl, _, σ17, a18, c19, fr_join ⟨rfl, rfl, rfl, rfl, trivial⟩, rfl, H.sel' [0, 1] rfl rfl⟩
     ·clear hj
      have h := h'
      clear h' H
      rintro e a w ⟨rfl, ρ, σ54, a55, c56, rfl, rfl, H⟩
      refine q_then ?_
      refine rg ?_
      refine st (v := (I s16.2)) (rv_move rfl) ?_
      refine st (v := (I (w64 (s16.2 + 1)))) (rv_add (a := s16.2) (b := 1) rfl rfl) ?_
      refine st (v := (I (w64 (s16.2 + 1)))) (rv_assign rfl) ?_
      refine w_end ?_
      refine q_then ?_
      obtain rfl := Option.some.inj h
      exact ⟨_, rfl, _, σ54, a55, c56, fr_join ⟨rfl, rfl, rfl, rfl, trivial⟩, rfl, H.sel' [0, 1] rfl rfl⟩
    ·replace h := bif_f hb20 h
     refine c_exit ?_
     refine q_then_x ?_
     refine q_then_x ?_
     refine q_blk_hit ?_
     obtain rfl := Option.some.inj h
     obtain rfl := hres _ rfl
     exact ⟨rfl, _, σ17, a18, c19, fr_join ⟨rfl, trivial⟩, rfl, H.sel' [1] rfl rfl⟩
   ·clear hj
    have h := h'
    clear h' H
    rintro e a w ⟨rfl, ρ, σ57, a58, c59, rfl, rfl, H⟩
    refine q_then ?_
    refine c_seq ?_
    refine rg ?_
    refine st (v := (Sl a58 o15 c59)) (rv_move rfl) ?_
    refine st (v := (Sl a58 o15 c59)) (rv_assign rfl) ?_
    refine st (v := (B true)) (rv_assign rfl) ?_
    refine w_end ?_
    refine q_then ?_
    refine c_ret ?_
    obtain rfl := Option.some.inj h
    exact fin_ret (v := (.tuple #[(Sl a58 o15 c59), (B true)])) (results_ok Try.results104 (res_tmp (v := (Sl a58 o15 c59)) rfl (res_tmp (v := (B true)) rfl res_nil)) rfl) ⟨a58, c59, rfl, rfl⟩ (H.sel' [0] rfl rfl)

theorem c_spec_apply {list_0 : List (Int × (List Int) × Int)} {e_1 : Int × (Int × (List Int) × Int)} {alist_0 : Option Addr} {clist_0 : Nat} {ae_1_1_1 : Option Addr} {ce_1_1_1 : Nat} {r : (List (Int × (List Int) × Int)) × Bool} (h : M.spec_apply list_0 e_1 = some r) :
    Cal2 Try.prog 88 [(Sl alist_0 list_0 clist_0), (.agg #[(I e_1.1), (I e_1.2.1), (Sl ae_1_1_1 e_1.2.2.1 ce_1_1_1), (I e_1.2.2.2)])] [Ch.ro 0 (Sl alist_0 list_0 clist_0) list_0, Ch.ro 0 (Sl ae_1_1_1 e_1.2.2.1 ce_1_1_1) e_1.2.2.1] (fun n0 v L => ∃ (az1 : Option Addr), ∃ (cz2 : Nat), v = (.tuple #[(Sl az1 r.1 cz2), (B r.2)]) ∧ L = [Ch.own n0 n0 (Sl az1 r.1 cz2) r.1]) := by
 refine cal2 (n := 22) Try.func88 rfl rfl rfl rfl ?_
 intro S0 σ0 n0 hn0 H
 unfold M.spec_apply at h
 refine c_seq ?_
 refine rg ?_
 refine st_ex (ex_box (cs := [(I e_1.1), (I e_1.2.1), (Sl ae_1_1_1 e_1.2.2.1 ce_1_1_1), (I e_1.2.2.2)]) H hn0 rfl rfl) wn ?_
 rintro _ σ2 ⟨b1, rfl, H, -⟩
 refine st (v := (.slice none 0 0)) (rv_assign rfl) ?_
 refine st (v := (B false)) (rv_assign rfl) ?_
 refine w_end ?_
 refine q_then ?_
 refine c_seq ?_
 refine c_seq ?_
 refine rg ?_
 refine st (v := (pt b1 0)) (rv_fieldAddr (off := 0) (ft := 3) Try.underlying56 rfl ti3 rfl rfl) ?_
 have hc3 := H.cell (u := (I e_1.1)) (o' := 0) 0 0 rfl rfl rfl
 refine st (v := (I e_1.1)) (rv_load1 Try.underlying3 rfl rfl hc3) ?_
 refine st (v := (B (e_1.1 == 1))) (rv_eql (a := e_1.1) (b := 1) rfl rfl) ?_
 refine w_end ?_
 refine q_then ?_
 refine cd_cond (e_1.1 == 1) rfl (fun hb4 => ?_) (fun hb4 => ?_)
 ·replace h := bif_t hb4 h
  refine c_seq ?_
  refine rg ?_
  refine st (v := (Sl alist_0 list_0 clist_0)) (rv_move rfl) ?_
  refine st (v := (pt b1 1)) (rv_fieldAddr (off := 1) (ft := 36) Try.underlying56 rfl ti36 rfl rfl) ?_
  have hc5 := H.part (us := [(I e_1.2.1), (Sl ae_1_1_1 e_1.2.2.1 ce_1_1_1), (I e_1.2.2.2)]) (o' := 1) 0 1 3 rfl rfl rfl rfl
  refine st (v := (.agg #[(I e_1.2.1), (Sl ae_1_1_1 e_1.2.2.1 ce_1_1_1), (I e_1.2.2.2)])) (rv_load (cs := [(I e_1.2.1), (Sl ae_1_1_1 e_1.2.2.1 ce_1_1_1), (I e_1.2.2.2)]) Try.underlying36 rfl ti36 rfl rfl hc5) ?_
  obtain ⟨r6, hx7, h'⟩ := bind_some h
  clear h
  have h := h'; clear h'
  have hc8 := c_spec_PutItem (alist_0 := alist_0) (clist_0 := clist_0) (ax_1_1 := ae_1_1_1) (cx_1_1 := ce_1_1_1) hx7
  refine st_call (cx_call hc8 (ent_f hc8.fn rfl) hn0 (show Hp S0 σ0 _ ([Ch.ro 0 (Sl alist_0 list_0 clist_0) list_0, Ch.ro 0 (Sl ae_1_1_1 e_1.2.2.1 ce_1_1_1) e_1.2.2.1] ++ [Ch.bx n0 b1 0 [(I e_1.1), (I e_1.2.1), (Sl ae_1_1_1 e_1.2.2.1 ce_1_1_1), (I e_1.2.2.2)] [] [], Ch.ro 0 (Sl alist_0 list_0 clist_0) list_0, Ch.ro 0 (Sl ae_1_1_1 e_1.2.2.1 ce_1_1_1) e_1.2.2.1]) from (H.sel' [1, 2, 0, 1, 2] rfl rfl))) wn ?_
  rintro _ σ11 ⟨_, ⟨a9, c10, rfl, rfl⟩, H, -⟩
  replace H : Hp S0 σ0 σ11 [Ch.own n0 n0 (Sl a9 r6.1 c10) r6.1, Ch.bx n0 b1 0 [(I e_1.1), (I e_1.2.1), (Sl ae_1_1_1 e_1.2.2.1 ce_1_1_1), (I e_1.2.2.2)] [] [], Ch.ro 0 (Sl alist_0 list_0 clist_0) list_0, Ch.ro 0 (Sl ae_1_1_1 e_1.2.2.1 ce_1_1_1) e_1.2.2.1] := H
  refine st (v := (Sl a9 r6.1 c10)) (rv_extract rfl rfl) ?_
  refine st (v := (B r6.2)) (rv_extract rfl rfl) ?_
  refine st (v := (Sl a9 r6.1 c10)) (rv_assign rfl) ?_
  refine st (v := (B r6.2)) (rv_assign rfl) ?_
  refine w_end ?_
  refine q_then ?_
  refine c_ret ?_
  refine q_then_r ?_
  obtain rfl := Option.some.inj h
  exact fin_ret (v := (.tuple #[(Sl a9 r6.1 c10), (B r6.2)])) (results_ok Try.results88 (res_tmp (v := (Sl a9 r6.1 c10)) rfl (res_tmp (v := (B r6.2)) rfl res_nil)) rfl) ⟨a9, c10, rfl, rfl⟩ (H.sel' [0] rfl rfl)
 ·replace h := bif_f hb4 h
  refine c_skip ?_
  refine q_then ?_
  refine c_seq ?_
  refine rg ?_
  refine st (v := (Sl alist_0 list_0 clist_0)) (rv_move rfl) ?_
  refine st (v := (pt b1 1)) (rv_fieldAddr (off := 1) (ft := 36) Try.underlying56 rfl ti36 rfl rfl) ?_
  refine st (v := (pt b1 1)) (rv_fieldAddr (off := 0) (ft := 3) Try.underlying36 rfl ti3 rfl rfl) ?_
  have hc12 := H.cell (u := (I e_1.2.1)) (o' := 1) 0 1 rfl rfl rfl
  refine st (v := (I e_1.2.1)) (rv_load1 Try.underlying3 rfl rfl hc12) ?_
  obtain ⟨r13, hx14, h'⟩ := bind_some h
  clear h
  have h := h'; clear h'
  have hc15 := c_spec_DropItem (alist_0 := alist_0) (clist_0 := clist_0) hx14
  refine st_call (cx_call hc15 (ent_f hc15.fn rfl) hn0 (show Hp S0 σ0 _ ([Ch.ro 0 (Sl alist_0 list_0 clist_0) list_0] ++ [Ch.bx n0 b1 0 [(I e_1.1), (I e_1.2.1), (Sl ae_1_1_1 e_1.2.2.1 ce_1_1_1), (I e_1.2.2.2)] [] [], Ch.ro 0 (Sl alist_0 list_0 clist_0) list_0, Ch.ro 0 (Sl ae_1_1_1 e_1.2.2.1 ce_1_1_1) e_1.2.2.1]) from (H.sel' [1, 0, 1, 2] rfl rfl))) wn ?_
  rintro _ σ18 ⟨_, ⟨a16, c17, rfl, rfl⟩, H, -⟩
  replace H : Hp S0 σ0 σ18 [Ch.own n0 n0 (Sl a16 r13.1 c17) r13.1, Ch.bx n0 b1 0 [(I e_1.1), (I e_1.2.1), (Sl ae_1_1_1 e_1.2.2.1 ce_1_1_1), (I e_1.2.2.2)] [] [], Ch.ro 0 (Sl alist_0 list_0 clist_0) list_0, Ch.ro 0 (Sl ae_1_1_1 e_1.2.2.1 ce_1_1_1) e_1.2.2.1] := H
  refine st (v := (Sl a16 r13.1 c17)) (rv_extract rfl rfl) ?_
  refine st (v := (B r13.2)) (rv_extract rfl rfl) ?_
  refine st (v := (Sl a16 r13.1 c17)) (rv_assign rfl) ?_
  refine st (v := (B r13.2)) (rv_assign rfl) ?_
  refine w_end ?_
  refine q_then ?_
  refine c_ret ?_
  obtain rfl := Option.some.inj h
  exact fin_ret (v := (.tuple #[(Sl a16 r13.1 c17), (B r13.2)])) (results_ok Try.results88 (res_tmp (v := (Sl a16 r13.1 c17)) rfl (res_tmp (v := (B r13.2)) rfl res_nil)) rfl) ⟨a16, c17, rfl, rfl⟩ (H.sel' [0] rfl rfl)

theorem c_spec_ReplayLog {list_0 : List (Int × (List Int) × Int)} {log_1 : List (Int × (Int × (List Int) × Int))} {alist_0 : Option Addr} {clist_0 : Nat} {alog_1 : Option Addr} {clog_1 : Nat} {r : (List (Int × (List Int) × Int)) × Int} (h : M.spec_ReplayLog list_0 log_1 = some r) :
    Cal2 Try.prog 56 [(Sl alist_0 list_0 clist_0), (Sl alog_1 log_1 clog_1)] [Ch.ro 0 (Sl alist_0 list_0 clist_0) list_0, Ch.ro 0 (Sl alog_1 log_1 clog_1) log_1] (fun n0 v L => ∃ (az1 : Option Addr), ∃ (cz2 : Nat), v = (.tuple #[(Sl az1 r.1 cz2), (I r.2)]) ∧ L = [Ch.own n0 n0 (Sl az1 r.1 cz2) r.1]) := by
 refine cal2 (n := 43) Try.func56 rfl rfl rfl rfl ?_
 intro S0 σ0 n0 hn0 H
 unfold M.spec_ReplayLog at h
 refine c_seq ?_
 refine rg ?_
 refine st (v := (.slice none 0 0)) (rv_assign rfl) ?_
 refine st (v := (I 0)) (rv_assign rfl) ?_
 refine w_end ?_
 refine q_then ?_
 refine c_seq ?_
 refine c_seq ?_
 obtain ⟨o1, hj, h'⟩ := bind_some h
 clear h
 refine c_cut (fun e a w => e = .normal ∧ ∃ (ρ : Nat → Value) (σ : St), a = fr 43 (updL ρ [(0, (Sl alist_0 list_0 clist_0)), (1, (Sl alog_1 log_1 clog_1)), (17, (B o1))]) ∧ w = σ.w ∧ Hp S0 σ0 σ [Ch.ro 0 (Sl alist_0 list_0 clist_0) list_0, Ch.ro 0 (Sl alog_1 log_1 clog_1) log_1]) ?_ ?_
 ·clear h'
  rename _ = some o1 => h
  refine rg ?_
  refine st (v := (Sl alist_0 list_0 clist_0)) (rv_move rfl) ?_
  obtain ⟨r2, hx3, h'⟩ := bind_some h
  clear h
  have h := h'; clear h'
  have hc4 := c_spec_validStore (alist_0 := alist_0) (clist_0 := clist_0) hx3
  refine st_call (cx_call hc4 (ent_f hc4.fn rfl) hn0 (show Hp S0 σ0 _ ([Ch.ro 0 (Sl alist_0 list_0 clist_0) list_0] ++ [Ch.ro 0 (Sl alist_0 list_0 clist_0) list_0, Ch.ro 0 (Sl alog_1 log_1 clog_1) log_1]) from (H.sel' [0, 0, 1] rfl rfl))) wn ?_
  rintro _ σ5 ⟨_, ⟨rfl, rfl⟩, H, -⟩
  replace H : Hp S0 σ0 σ5 [Ch.ro 0 (Sl alist_0 list_0 clist_0) list_0, Ch.ro 0 (Sl alog_1 log_1 clog_1) log_1] := H
  refine st (v := (B (!r2))) (rv_not rfl) ?_
  refine st (v := (B (!r2))) (rv_move rfl) ?_
  rcases Bool.eq_false_or_eq_true (!r2) with hb6 | hb6
  ·replace h := bif_t hb6 h
   refine st_skip (congrArg some hb6) ?_
   refine st_skip (congrArg some hb6) ?_
   refine st_skip (congrArg some hb6) ?_
   refine st (v := (B true)) (rv_pick_t (congrArg B hb6) rfl) ?_
   refine w_end ?_
   obtain rfl := Option.some.inj h
   exact ⟨rfl, _, σ5, fr_join ⟨rfl, rfl, rfl, trivial⟩, rfl, H.sel' [0, 1] rfl rfl⟩
  ·replace h := bif_f hb6 h
   refine st_g (v := (Sl alog_1 log_1 clog_1)) (congrArg some hb6) (rv_move rfl) ?_
   obtain ⟨r7, hx8, h'⟩ := bind_some h
   clear h
   have h := h'; clear h'
   have hc9 := c_spec_validLog (alist_0 := alog_1) (clist_0 := clog_1) hx8
   refine st_call (cx_call hc9 (ent_f hc9.fn rfl) hn0 (show Hp S0 σ0 _ ([Ch.ro 0 (Sl alog_1 log_1 clog_1) log_1] ++ [Ch.ro 0 (Sl alist_0 list_0 clist_0) list_0, Ch.ro 0 (Sl alog_1 log_1 clog_1) log_1]) from (H.sel' [1, 0, 1] rfl rfl))) (wanted_yes rfl (by exact (congrArg some hb6))) ?_
   rintro _ σ10 ⟨_, ⟨rfl, rfl⟩, H, -⟩
   replace H : Hp S0 σ0 σ10 [Ch.ro 0 (Sl alist_0 list_0 clist_0) list_0, Ch.ro 0 (Sl alog_1 log_1 clog_1) log_1] := H
   refine st_g (v := (B (!r7))) (congrArg some hb6) (rv_not rfl) ?_
   refine st (v := (B (!r7))) (rv_pick_f (congrArg B hb6) rfl) ?_
   refine w_end ?_
   obtain rfl := Option.some.inj h
   exact ⟨rfl, _, σ10, fr_join ⟨rfl, rfl, rfl, trivial⟩, rfl, H.sel' [0, 1] rfl rfl⟩
 ·clear hj
  have h := h'
  clear h' H
  rintro e a w ⟨rfl, ρ, σ11, rfl, rfl, H⟩
  refine q_then ?_
  refine cd_cond o1 rfl (fun hb12 => ?_) (fun hb12 => ?_)
  ·replace h := bif_t hb12 h
   refine c_seq ?_
   refine rg ?_
   refine st (v := (.slice none 0 0)) (rv_assign rfl) ?_
   refine st (v := (I (-1))) (rv_assign rfl) ?_
   refine w_end ?_
   refine q_then ?_
   refine c_ret ?_
   refine q_then_r ?_
   replace H := H.nilOwn (Int × (List Int) × Int) n0 n0
   obtain rfl := Option.some.inj h
   exact fin_ret (v := (.tuple #[(.slice none 0 0), (I (-1))])) (results_ok Try.results56 (res_tmp (v := (.slice none 0 0)) rfl (res_tmp (v := (I (-1))) rfl res_nil)) rfl) ⟨none, 0, rfl, rfl⟩ (H.sel' [0] rfl rfl)
  ·replace h := bif_f hb12 h
   refine c_skip ?_
   refine q_then ?_
   refine c_seq ?_
   refine rg ?_
   refine st (v := (Sl alist_0 list_0 clist_0)) (rv_move rfl) ?_
   obtain ⟨r13, hx14, h'⟩ := bind_some h
   clear h
   have h := h'; clear h'
   have hc15 := c_spec_copyStore (alist_0 := alist_0) (clist_0 := clist_0) hx14
   refine st_call (cx_call hc15 (ent_f hc15.fn rfl) hn0 (show Hp S0 σ0 _ ([Ch.ro 0 (Sl alist_0 list_0 clist_0) list_0] ++ [Ch.ro 0 (Sl alist_0 list_0 clist_0) list_0, Ch.ro 0 (Sl alog_1 log_1 clog_1) log_1]) from (H.sel' [0, 0, 1] rfl rfl))) wn ?_
   rintro _ σ18 ⟨_, ⟨a16, c17, rfl, rfl⟩, H, -⟩
   replace H : Hp S0 σ0 σ18 [Ch.own n0 n0 (Sl a16 r13 c17) r13, Ch.ro 0 (Sl alist_0 list_0 clist_0) list_0, Ch.ro 0 (Sl alog_1 log_1 clog_1) log_1] := H
   refine st (v := (Sl a16 r13 c17)) (rv_assign rfl) ?_
   refine w_end ?_
   refine q_then ?_
   refine c_seq ?_
   refine c_seq ?_
   refine rg ?_
   refine st (v := (I 0)) (rv_assign rfl) ?_
   refine w_end ?_
   refine q_then ?_
   obtain ⟨o19, hj, h'⟩ := bind_some h
   clear h
   refine c_cut (fun e a w => (∃ t, o19 = (.inl t) ∧ e = .normal ∧ ∃ (ρ : Nat → Value) (σ : St) (aj1 : Option Addr) (cj2 : Nat), a = fr 43 (updL ρ [(1, (Sl alog_1 log_1 clog_1)), (6, (Sl aj1 t cj2))]) ∧ w = σ.w ∧ Hp S0 σ0 σ [Ch.ro 0 (Sl alog_1 log_1 clog_1) log_1, Ch.own n0 n0 (Sl aj1 t cj2) t]) ∨ (∃ t, o19 = (.inr t) ∧ e = .ret ∧ ∃ (ρ : Nat → Value) (σ : St) (aj1 : Option Addr) (cj2 : Nat), a = fr 43 (updL ρ [(4, (Sl aj1 t.1 cj2)), (5, (I t.2))]) ∧ w = σ.w ∧ Hp S0 σ0 σ [Ch.own n0 n0 (Sl aj1 t.1 cj2) t.1])) ?_ ?_
   ·clear h'
    rename _ = some o19 => h
    refine c_blk ?_
    refine wp_loopM _ h (fun s20 a w => ∃ (ρ : Nat → Value) (σ : St) (aj1 : Option Addr) (cj2 : Nat), a = fr 43 (updL ρ [(1, (Sl alog_1 log_1 clog_1)), (6, (Sl aj1 s20.1 cj2)), (7, (I s20.2))]) ∧ w = σ.w ∧ Hp S0 σ0 σ [Ch.ro 0 (Sl alog_1 log_1 clog_1) log_1, Ch.own n0 n0 (Sl aj1 s20.1 cj2) s20.1]) ⟨_, σ18, a16, c17, fr_join ⟨rfl, rfl, rfl, trivial⟩, rfl, H.sel' [2, 0] rfl rfl⟩ ?_
    clear h H
    rintro s20 a w o ⟨ρ, σ21, a22, c23, rfl, rfl, H⟩ h hres
    refine c_seq ?_
    refine c_seq ?_
    refine rg ?_
    refine st (v := (I s20.2)) (rv_move rfl) ?_
    refine st (v := (Sl alog_1 log_1 clog_1)) (rv_move rfl) ?_
    refine st (v := (I (log_1.length : Int))) (rv_len Try.underlying23 rfl) ?_
    refine st (v := (B (decide (s20.2 < (log_1.length : Int))))) (rv_lss (a := s20.2) (b := (log_1.length : Int)) rfl rfl) ?_
    refine w_end ?_
    refine q_then ?_
    refine cd_cond (decide (s20.2 < (log_1.length : Int))) rfl (fun hb24 => ?_) (fun hb24 => ?_)
    ·replace h := bif_t hb24 h
     refine c_skip ?_
     refine q_then ?_
     refine c_seq ?_
     refine c_blk ?_
     refine c_seq ?_
     refine rg ?_
     refine st (v := (Sl a22 s20.1 c23)) (rv_move rfl) ?_
     refine st (v := (Sl alog_1 log_1 clog_1)) (rv_move rfl) ?_
     refine st (v := (I s20.2)) (rv_move rfl) ?_
     obtain ⟨x25, hx26, h'⟩ := bind_some h
     clear h
     have h := h'; clear h'
     obtain ⟨b28, o29, hi27, -⟩ := (H.ro 0 rfl).ix hx26
     refine st (v := (pt b28 o29)) (rv_ix Try.underlying23 ti56 rfl rfl hi27) ?_
     obtain ⟨_, ⟨_, _, rfl, rfl, ⟨_, _, rfl, rfl, ⟨_, _, rfl, ⟨_, rfl, hR34⟩, rfl⟩⟩⟩, hl30, hc31⟩ := ((H.ro 0 rfl).at hx26 hi27).cells
     obtain ⟨a32, c33, rfl⟩ := hR34.isSl
     replace H := H.add (d := Ch.ro 0 (Sl a32 x25.2.2.1 c33) x25.2.2.1) hR34 (fun _ h => h)
     clear hR34
     refine st (v := (.agg #[(I x25.1), (I x25.2.1), (Sl a32 x25.2.2.1 c33), (I x25.2.2.2)])) (rv_load Try.underlying56 rfl ti56 rfl hl30 hc31) ?_
     obtain ⟨r35, hx36, h'⟩ := bind_some h
     clear h
     have h := h'; clear h'
     have hc37 := c_spec_apply (alist_0 := a22) (clist_0 := c23) (ae_1_1_1 := a32) (ce_1_1_1 := c33) hx36
     have hle := Nat.le_trans hn0 H.size
     refine st_call (cx_lend (Loan.lend (Loan.same Loan.nil)) hc37 (ent_f hc37.fn rfl) (show Hp S0 σ0 _ ([Ch.own n0 n0 (Sl a22 s20.1 c23) s20.1] ++ ([Ch.ro 0 (Sl a32 x25.2.2.1 c33) x25.2.2.1] ++ [Ch.ro 0 (Sl a32 x25.2.2.1 c33) x25.2.2.1, Ch.ro 0 (Sl alog_1 log_1 clog_1) log_1])) from (H.sel' [2, 0, 0, 1] rfl rfl)) (by rintro _ _ _ ⟨_, _, rfl, rfl⟩; exact ⟨Ab.own (Nat.le_refl _), trivial⟩)) wn ?_
     rintro _ σ40 ⟨_, ⟨a38, c39, rfl, rfl⟩, H, -, -⟩
     replace H : Hp S0 σ0 σ40 [Ch.own σ21.size σ21.size (Sl a38 r35.1 c39) r35.1, Ch.own n0 n0 (Sl a22 s20.1 c23) s20.1, Ch.ro 0 (Sl a32 x25.2.2.1 c33) x25.2.2.1, Ch.ro 0 (Sl alog_1 log_1 clog_1) log_1] := H
     replace H := H.ownLow 0 n0 n0 rfl hle hle
     clear hle
     replace H : Hp S0 σ0 σ40 [Ch.own n0 n0 (Sl a38 r35.1 c39) r35.1, Ch.own n0 n0 (Sl a22 s20.1 c23) s20.1, Ch.ro 0 (Sl a32 x25.2.2.1 c33) x25.2.2.1, Ch.ro 0 (Sl alog_1 log_1 clog_1) log_1] := H
     refine st (v := (.tuple #[(Sl a38 r35.1 c39), (B r35.2)])) (rv_move rfl) ?_
     refine st (v := (Sl a38 r35.1 c39)) (rv_extract rfl rfl) ?_
     refine st (v := (B r35.2)) (rv_extract rfl rfl) ?_
     refine st (v := (Sl a38 r35.1 c39)) (rv_assign rfl) ?_
     refine st (v := (B r35.2)) (rv_assign rfl) ?_
     refine w_end ?_
     refine q_then ?_
     refine c_seq ?_
     refine c_seq ?_
     refine rg ?_
     refine st (v := (B r35.2)) (rv_move rfl) ?_
     refine st (v := (B (!r35.2))) (rv_not rfl) ?_
     refine w_end ?_
     refine q_then ?_
     refine cd_cond (!r35.2) rfl (fun hb41 => ?_) (fun hb41 => ?_)
     ·replace h := bif_t hb41 h
      refine c_seq ?_
      refine rg ?_
      refine st (v := (Sl a22 s20.1 c23)) (rv_move rfl) ?_
      refine st (v := (I s20.2)) (rv_move rfl) ?_
      refine st (v := (Sl a22 s20.1 c23)) (rv_assign rfl) ?_
      refine st (v := (I s20.2)) (rv_assign rfl) ?_
      refine w_end ?_
      refine q_then ?_
      refine c_ret ?_
      refine q_then_r ?_
      refine q_blk_r ?_
      refine q_then_r ?_
      refine q_then_r ?_
      refine q_blk_r ?_
      obtain rfl := Option.some.inj h
      obtain rfl := hres _ rfl
      exact .inr (⟨_, rfl, rfl, _, σ40, a22, c23, fr_join ⟨rfl, rfl, trivial⟩, rfl, H.sel' [1] rfl rfl⟩)
     ·replace h := bif_f hb41 h
      refine c_skip ?_
      refine q_then ?_
      refine rg ?_
      refine st (v := (Sl a38 r35.1 c39)) (rv_move rfl) ?_
      refine st (v := (Sl a38 r35.1 c39)) (rv_assign rfl) ?_
      refine w_end ?_
      refine q_blk ?_
      refine q_then ?_
      refine rg ?_
      refine st (v := (I s20.2)) (rv_move rfl) ?_
      refine st (v := (I (w64 (s20.2 + 1)))) (rv_add (a := s20.2) (b := 1) rfl rfl) ?_
      refine st (v := (I (w64 (s20.2 + 1)))) (rv_assign rfl) ?_
      refine w_end ?_
      refine q_then ?_
      obtain rfl := Option.some.inj h
      exact ⟨_, rfl, _, σ40, a38, c39, fr_join ⟨rfl, rfl, rfl, trivial⟩, rfl, H.sel' [3, 0] rfl rfl⟩
    ·replace h := bif_f hb24 h
     refine c_exit ?_
     refine q_then_x ?_
     refine q_then_x ?_
     refine q_blk_hit ?_
     obtain rfl := Option.some.inj h
     obtain rfl := hres _ rfl
     exact .inl ⟨_, rfl, rfl, _, σ21, a22, c23, fr_join ⟨rfl, rfl, trivial⟩, rfl, H.sel' [0, 1] rfl rfl⟩
   ·clear hj
    have h := h'
    clear h' H
    rintro e a w (⟨t42, rfl, rfl, ρ, σ43, a44, c45, rfl, rfl, H⟩ | ⟨t46, rfl, rfl, ρ, σ47, a48, c49, rfl, rfl, H⟩)
    ·replace h := selim_l h
     refine q_then ?_
     refine c_seq ?_
     refine rg ?_
     refine st (v := (Sl a44 t42 c45)) (rv_move rfl) ?_
     refine st (v := (Sl alog_1 log_1 clog_1)) (rv_move rfl) ?_
     refine st (v := (I (log_1.length : Int))) (rv_len Try.underlying23 rfl) ?_
     refine st (v := (Sl a44 t42 c45)) (rv_assign rfl) ?_
     refine st (v := (I (log_1.length : Int))) (rv_assign rfl) ?_
     refine w_end ?_
     refine q_then ?_
     refine c_ret ?_
     obtain rfl := Option.some.inj h
     exact fin_ret (v := (.tuple #[(Sl a44 t42 c45), (I (log_1.length : Int))])) (results_ok Try.results56 (res_tmp (v := (Sl a44 t42 c45)) rfl (res_tmp (v := (I (log_1.length : Int))) rfl res_nil)) rfl) ⟨a44, c45, rfl, rfl⟩ (H.sel' [1] rfl rfl)
    ·replace h := selim_r h
     refine q_then_r ?_
     obtain rfl := Option.some.inj h
     exact fin_ret (v := (.tuple #[(Sl a48 t46.1 c49), (I t46.2)])) (results_ok Try.results56 (res_tmp (v := (Sl a48 t46.1 c49)) rfl (res_tmp (v := (I t46.2)) rfl res_nil)) rfl) ⟨a48, c49, rfl, rfl⟩ (H.sel' [0] rfl rfl)

theorem c_spec_validHistory {h_0 : (List (Int × (Int × (List Int) × Int))) × (List Int)} {ah_0_0 : Option Addr} {ch_0_0 : Nat} {ah_0_1 : Option Addr} {ch_0_1 : Nat} {r : Bool} (h : M.spec_validHistory h_0 = some r) :
    Cal2 Try.prog 44 [(.agg #[(Sl ah_0_0 h_0.1 ch_0_0), (Sl ah_0_1 h_0.2 ch_0_1)])] [Ch.ro 0 (Sl ah_0_0 h_0.1 ch_0_0) h_0.1, Ch.ro 0 (Sl ah_0_1 h_0.2 ch_0_1) h_0.2] (fun n0 v L => v = (B r) ∧ L = []) := by
 refine cal2 (n := 63) Try.func44 rfl rfl rfl rfl ?_
 intro S0 σ0 n0 hn0 H
 unfold M.spec_validHistory at h
 refine c_seq ?_
 refine rg ?_
 refine st_ex (ex_box (cs := [(Sl ah_0_0 h_0.1 ch_0_0), (Sl ah_0_1 h_0.2 ch_0_1)]) H hn0 rfl rfl) wn ?_
 rintro _ σ2 ⟨b1, rfl, H, -⟩
 refine st (v := (B false)) (rv_assign rfl) ?_
 refine w_end ?_
 refine q_then ?_
 refine c_seq ?_
 refine c_seq ?_
 obtain ⟨o3, hj, h'⟩ := bind_some h
 clear h
 refine c_cut (fun e a w => e = .normal ∧ ∃ (ρ : Nat → Value) (σ : St), a = fr 63 (updL ρ [(1, (pt b1 0)), (18, (B o3))]) ∧ w = σ.w ∧ Hp S0 σ0 σ [Ch.ro 0 (Sl ah_0_0 h_0.1 ch_0_0) h_0.1, Ch.ro 0 (Sl ah_0_1 h_0.2 ch_0_1) h_0.2, Ch.bx n0 b1 0 [(Sl ah_0_0 h_0.1 ch_0_0), (Sl ah_0_1 h_0.2 ch_0_1)] [] []]) ?_ ?_
 ·clear h'
  rename _ = some o3 => h
  refine rg ?_
  refine st (v := (pt b1 0)) (rv_fieldAddr (off := 0) (ft := 23) Try.underlying26 rfl ti23 rfl rfl) ?_
  have hc4 := H.cell (u := (Sl ah_0_0 h_0.1 ch_0_0)) (o' := 0) 0 0 rfl rfl rfl
  refine st (v := (Sl ah_0_0 h_0.1 ch_0_0)) (rv_load1 Try.underlying23 rfl rfl hc4) ?_
  obtain ⟨r5, hx6, h'⟩ := bind_some h
  clear h
  have h := h'; clear h'
  have hc7 := c_spec_validLog (alist_0 := ah_0_0) (clist_0 := ch_0_0) hx6
  refine st_call (cx_call hc7 (ent_f hc7.fn rfl) hn0 (show Hp S0 σ0 _ ([Ch.ro 0 (Sl ah_0_0 h_0.1 ch_0_0) h_0.1] ++ [Ch.bx n0 b1 0 [(Sl ah_0_0 h_0.1 ch_0_0), (Sl ah_0_1 h_0.2 ch_0_1)] [] [], Ch.ro 0 (Sl ah_0_0 h_0.1 ch_0_0) h_0.1, Ch.ro 0 (Sl ah_0_1 h_0.2 ch_0_1) h_0.2]) from (H.sel' [1, 0, 1, 2] rfl rfl))) wn ?_
  rintro _ σ8 ⟨_, ⟨rfl, rfl⟩, H, -⟩
  replace H : Hp S0 σ0 σ8 [Ch.bx n0 b1 0 [(Sl ah_0_0 h_0.1 ch_0_0), (Sl ah_0_1 h_0.2 ch_0_1)] [] [], Ch.ro 0 (Sl ah_0_0 h_0.1 ch_0_0) h_0.1, Ch.ro 0 (Sl ah_0_1 h_0.2 ch_0_1) h_0.2] := H
  refine st (v := (B (!r5))) (rv_not rfl) ?_
  refine st (v := (B (!r5))) (rv_move rfl) ?_
  rcases Bool.eq_false_or_eq_true (!r5) with hb9 | hb9
  ·replace h := bif_t hb9 h
   refine st_skip (congrArg some hb9) ?_
   refine st_skip (congrArg some hb9) ?_
   refine st_skip (congrArg some hb9) ?_
   refine st_skip (congrArg some hb9) ?_
   refine st_skip (congrArg some hb9) ?_
   refine st_skip (congrArg some hb9) ?_
   refine st_skip (congrArg some hb9) ?_
   refine st (v := (B true)) (rv_pick_t (congrArg B hb9) rfl) ?_
   refine w_end ?_
   obtain rfl := Option.some.inj h
   exact ⟨rfl, _, σ8, fr_join ⟨rfl, rfl, trivial⟩, rfl, H.sel' [1, 2, 0] rfl rfl⟩
  ·replace h := bif_f hb9 h
   refine st_g (v := (pt b1 1)) (congrArg some hb9) (rv_fieldAddr (off := 1) (ft := 24) Try.underlying26 rfl ti24 rfl rfl) ?_
   have hc10 := H.cell (u := (Sl ah_0_1 h_0.2 ch_0_1)) (o' := 1) 0 1 rfl rfl rfl
   refine st_g (v := (Sl ah_0_1 h_0.2 ch_0_1)) (congrArg some hb9) (rv_load1 Try.underlying24 rfl rfl hc10) ?_
   refine st_g (v := (I (h_0.2.length : Int))) (congrArg some hb9) (rv_len Try.underlying24 rfl) ?_
   refine st_g (v := (pt b1 0)) (congrArg some hb9) (rv_fieldAddr (off := 0) (ft := 23) Try.underlying26 rfl ti23 rfl rfl) ?_
   have hc11 := H.cell (u := (Sl ah_0_0 h_0.1 ch_0_0)) (o' := 0) 0 0 rfl rfl rfl
   refine st_g (v := (Sl ah_0_0 h_0.1 ch_0_0)) (congrArg some hb9) (rv_load1 Try.underlying23 rfl rfl hc11) ?_
   refine st_g (v := (I (h_0.1.length : Int))) (congrArg some hb9) (rv_len Try.underlying23 rfl) ?_
   refine st_g (v := (B ((h_0.2.length : Int) != (h_0.1.length : Int)))) (congrArg some hb9) (rv_neq (a := (h_0.2.length : Int)) (b := (h_0.1.length : Int)) rfl rfl) ?_
   refine st (v := (B ((h_0.2.length : Int) != (h_0.1.length : Int)))) (rv_pick_f (congrArg B hb9) rfl) ?_
   refine w_end ?_
   obtain rfl := Option.some.inj h
   exact ⟨rfl, _, σ8, fr_join ⟨rfl, rfl, trivial⟩, rfl, H.sel' [1, 2, 0] rfl rfl⟩
 ·clear hj
  have h := h'
  clear h' H
  rintro e a w ⟨rfl, ρ, σ12, rfl, rfl, H⟩
  refine q_then ?_
  refine cd_cond o3 rfl (fun hb13 => ?_) (fun hb13 => ?_)
  ·replace h := bif_t hb13 h
   refine c_seq ?_
   refine rg ?_
   refine st (v := (B false)) (rv_assign rfl) ?_
   refine w_end ?_
   refine q_then ?_
   refine c_ret ?_
   refine q_then_r ?_
   obtain rfl := Option.some.inj h
   exact fin_ret (v := (B false)) (results_ok Try.results44 (res_tmp (v := (B false)) rfl res_nil) rfl) ⟨rfl, rfl⟩ (H.sel' [] rfl rfl)
  ·replace h := bif_f hb13 h
   refine c_skip ?_
   refine q_then ?_
   refine c_seq ?_
   refine c_seq ?_
   refine rg ?_
   refine st (v := (I 0)) (rv_assign rfl) ?_
   refine w_end ?_
   refine q_then ?_
   obtain ⟨o14, hj, h'⟩ := bind_some h
   clear h
   refine c_cut (fun e a w => (∃ t, o14 = (.inl t) ∧ e = .normal ∧ ∃ (ρ : Nat → Value) (σ : St), a = fr 63 (updL ρ [(1, (pt b1 0))]) ∧ w = σ.w ∧ Hp S0 σ0 σ [Ch.ro 0 (Sl ah_0_0 h_0.1 ch_0_0) h_0.1, Ch.ro 0 (Sl ah_0_1 h_0.2 ch_0_1) h_0.2, Ch.bx n0 b1 0 [(Sl ah_0_0 h_0.1 ch_0_0), (Sl ah_0_1 h_0.2 ch_0_1)] [] []]) ∨ (∃ t, o14 = (.inr t) ∧ e = .ret ∧ ∃ (ρ : Nat → Value) (σ : St), a = fr 63 (updL ρ [(2, (B t))]) ∧ w = σ.w ∧ Hp S0 σ0 σ [])) ?_ ?_
   ·clear h'
    rename _ = some o14 => h
    refine c_blk ?_
    refine wp_loopM _ h (fun s15 a w => ∃ (ρ : Nat → Value) (σ : St), a = fr 63 (updL ρ [(1, (pt b1 0)), (3, (I s15))]) ∧ w = σ.w ∧ Hp S0 σ0 σ [Ch.ro 0 (Sl ah_0_0 h_0.1 ch_0_0) h_0.1, Ch.ro 0 (Sl ah_0_1 h_0.2 ch_0_1) h_0.2, Ch.bx n0 b1 0 [(Sl ah_0_0 h_0.1 ch_0_0), (Sl ah_0_1 h_0.2 ch_0_1)] [] []]) ⟨_, σ12, fr_join ⟨rfl, rfl, trivial⟩, rfl, H.sel' [0, 1, 2] rfl rfl⟩ ?_
    clear h H
    rintro s15 a w o ⟨ρ, σ16, rfl, rfl, H⟩ h hres
    refine c_seq ?_
    refine c_seq ?_
    refine rg ?_
    refine st (v := (I s15)) (rv_move rfl) ?_
    refine st (v := (pt b1 1)) (rv_fieldAddr (off := 1) (ft := 24) Try.underlying26 rfl ti24 rfl rfl) ?_
    have hc17 := H.cell (u := (Sl ah_0_1 h_0.2 ch_0_1)) (o' := 1) 2 1 rfl rfl rfl
    refine st (v := (Sl ah_0_1 h_0.2 ch_0_1)) (rv_load1 Try.underlying24 rfl rfl hc17) ?_
    refine st (v := (I (h_0.2.length : Int))) (rv_len Try.underlying24 rfl) ?_
    refine st (v := (B (decide (s15 < (h_0.2.length : Int))))) (rv_lss (a := s15) (b := (h_0.2.length : Int)) rfl rfl) ?_
    refine w_end ?_
    refine q_then ?_
    refine cd_cond (decide (s15 < (h_0.2.length : Int))) rfl (fun hb18 => ?_) (fun hb18 => ?_)
    ·replace h := bif_t hb18 h
     refine c_skip ?_
     refine q_then ?_
     refine c_seq ?_
     refine c_blk ?_
     refine c_seq ?_
     obtain ⟨o19, hj, h'⟩ := bind_some h
     clear h
     refine c_cut (fun e a w => e = .normal ∧ ∃ (ρ : Nat → Value) (σ : St), a = fr 63 (updL ρ [(1, (pt b1 0)), (3, (I s15)), (50, (B o19))]) ∧ w = σ.w ∧ Hp S0 σ0 σ [Ch.ro 0 (Sl ah_0_0 h_0.1 ch_0_0) h_0.1, Ch.ro 0 (Sl ah_0_1 h_0.2 ch_0_1) h_0.2, Ch.bx n0 b1 0 [(Sl ah_0_0 h_0.1 ch_0_0), (Sl ah_0_1 h_0.2 ch_0_1)] [] []]) ?_ ?_
     ·clear h'
      rename _ = some o19 => h
      have hc20 := H.cell (u := (Sl ah_0_1 h_0.2 ch_0_1)) (o' := 1) 2 1 rfl rfl rfl
      obtain ⟨x21, hx22, h'⟩ := bind_some h
      clear h
      have h := h'; clear h'
      obtain ⟨b24, o25, hi23, -⟩ := (H.ro 1 rfl).ix hx22
      have hc26 := ((H.ro 1 rfl).at hx22 hi23).int
      obtain ⟨r27, hx28, h'⟩ := bind_some h
      clear h
      have h := h'; clear h'
      have hc29 := c_spec_inRange hx28
      rcases Bool.eq_false_or_eq_true (!r27) with hb30 | hb30
      ·replace h := bif_t hb30 h
       have Hs := H
       refine rg2 (σ := σ16) (Nm := Unit) 22 [5] [[false], [true]] [[(0, 0)], [(0, 0)], [(0, 0)], [(0, 0)], [(0, 0)], [(0, 1)], [(1, 1)], [(1, 1)], [(1, 1)], [(1, 1)], [(1, 1)], [(1, 1)], [(1, 1)], [(1, 1)], [(1, 1)], [(1, 1)], [(1, 1)], [(1, 1)], [(1, 1)], [(1, 1)], [(1, 1)], [(1, 1)]] 1 [fun _ => fun σm => Hp S0 σ0 σm [Ch.ro 0 (Sl ah_0_0 h_0.1 ch_0_0) h_0.1, Ch.ro 0 (Sl ah_0_1 h_0.2 ch_0_1) h_0.2, Ch.bx n0 b1 0 [(Sl ah_0_0 h_0.1 ch_0_0), (Sl ah_0_1 h_0.2 ch_0_1)] [] []] ∧ Md (cov []) σ16 σm, fun _ => fun σm => Hp S0 σ0 σm [Ch.ro 0 (Sl ah_0_0 h_0.1 ch_0_0) h_0.1, Ch.ro 0 (Sl ah_0_1 h_0.2 ch_0_1) h_0.2, Ch.bx n0 b1 0 [(Sl ah_0_0 h_0.1 ch_0_0), (Sl ah_0_1 h_0.2 ch_0_1)] [] []] ∧ Md (cov []) σ16 σm] [fun _ => (pt b1 1), fun _ => (Sl ah_0_1 h_0.2 ch_0_1), fun _ => (I s15), fun _ => (pt b24 o25), fun _ => (I x21), fun _ => (B r27), fun _ => (B (!r27)), fun _ => (B (!r27)), fun _ => undef, fun _ => undef, fun _ => undef, fun _ => undef, fun _ => undef, fun _ => undef, fun _ => undef, fun _ => undef, fun _ => undef, fun _ => undef, fun _ => undef, fun _ => undef, fun _ => undef, fun _ => undef] () (by kernel_rfl) (by kernel_rfl) ?_ ?_ ?_
       ·intro σm m0
        exact ⟨H.grow (m0.mono fun _ h => h.elim), m0⟩
       ·refine ac rfl (by
          intro k _nm ρ σm hJ hoff hdep
          have e1 := look_off (N := 63) (hoff 1 rfl) rfl
          exact dp_v (v := (pt b1 1)) wn (rv_fieldAddr (off := 1) (ft := 24) Try.underlying26 rfl ti24 rfl e1) rfl hJ) ?_
        refine all_cons (by
          refine ⟨?_, ?_⟩
          ·intro _nm ρ σm hJ hoff hdep
           have e26 := hdep 0 rfl rfl 26 rfl
           obtain ⟨H, m⟩ := id hJ
           have hc20 := H.cell (u := (Sl ah_0_1 h_0.2 ch_0_1)) (o' := 1) 2 1 rfl rfl rfl
           exact dp_v (v := (Sl ah_0_1 h_0.2 ch_0_1)) wn (rv_load1 Try.underlying24 rfl e26 hc20) rfl hJ
          trivial) ?_
        refine ac rfl (by
          intro k _nm ρ σm hJ hoff hdep
          have e3 := look_off (N := 63) (hoff 3 rfl) rfl
          exact dp_v (v := (I s15)) wn (rv_move e3) rfl hJ) ?_
        refine ac rfl (by
          intro k _nm ρ σm hJ hoff hdep
          have e27 := hdep 1 rfl rfl 27 rfl
          have e28 := hdep 2 rfl rfl 28 rfl
          exact dp_v (v := (pt b24 o25)) wn (rv_ix Try.underlying24 ti3 e27 e28 hi23) rfl hJ) ?_
        refine all_cons (by
          refine ⟨?_, ?_⟩
          ·intro _nm ρ σm hJ hoff hdep
           have e29 := hdep 3 rfl rfl 29 rfl
           obtain ⟨H, m⟩ := id hJ
           replace hc26 := (Hs.ro 1 rfl).hmd hx22 hi23 (k := 0) (by decide) hc26 m
           exact dp_v (v := (I x21)) wn (rv_load1 Try.underlying3 rfl e29 hc26) rfl hJ
          trivial) ?_
        refine all_cons (by
          refine ⟨?_, ?_⟩
          ·intro _nm ρ σm hJ hoff hdep
           have e30 : look 63 ρ 30 = (I x21) := hdep 4 rfl rfl 30 rfl
           obtain ⟨H, m⟩ := id hJ
           refine dp_cx wn (cx_call hc29 (ent_f hc29.fn (by show [look 63 ρ 30, (I 1), (I 1000)] = _; rw [e30])) hn0 (show Hp S0 σ0 _ ([] ++ [Ch.ro 0 (Sl ah_0_0 h_0.1 ch_0_0) h_0.1, Ch.ro 0 (Sl ah_0_1 h_0.2 ch_0_1) h_0.2, Ch.bx n0 b1 0 [(Sl ah_0_0 h_0.1 ch_0_0), (Sl ah_0_1 h_0.2 ch_0_1)] [] []]) from (H.sel' [0, 1, 2] rfl rfl))) ?_
           rintro _ σq ⟨_, ⟨rfl, rfl⟩, H2, m2⟩
           exact ⟨_, (), rfl, rfl, ⟨H2.sel' [0, 1, 2] rfl rfl, m.comp0 m2⟩, stab [0, 1, 2, 3, 4] (by kernel_rfl) ⟨rfl, rfl, rfl, rfl, rfl, trivial⟩⟩
          trivial) ?_
        refine ac rfl (by
          intro k _nm ρ σm hJ hoff hdep
          have e31 := hdep 5 rfl rfl 31 rfl
          exact dp_v (v := (B (!r27))) wn (rv_not e31) rfl hJ) ?_
        refine ac rfl (by
          intro k _nm ρ σm hJ hoff hdep
          have e32 := hdep 6 rfl rfl 32 rfl
          exact dp_v (v := (B (!r27))) wn (rv_move e32) rfl hJ) ?_
        refine ac rfl (by
          intro k _nm ρ σm hJ hoff hdep
          have e33 := hdep 7 rfl rfl 33 rfl
          exact dp_skip (wanted_no rfl (yv_of rfl (e33.trans (congrArg B hb30)))) rfl hJ) ?_
        refine ac rfl (by
          intro k _nm ρ σm hJ hoff hdep
          have e33 := hdep 7 rfl rfl 33 rfl
          exact dp_skip (wanted_no rfl (yv_of rfl (e33.trans (congrArg B hb30)))) rfl hJ) ?_
        refine ac rfl (by
          intro k _nm ρ σm hJ hoff hdep
          have e33 := hdep 7 rfl rfl 33 rfl
          exact dp_skip (wanted_no rfl (yv_of rfl (e33.trans (congrArg B hb30)))) rfl hJ) ?_
        refine ac rfl (by
          intro k _nm ρ σm hJ hoff hdep
          have e36 := hdep 10 rfl rfl 36 rfl
          exact dp_skip (wanted_u rfl (yv_undef rfl e36)) rfl hJ) ?_
        refine ac rfl (by
          intro k _nm ρ σm hJ hoff hdep
          have e36 := hdep 10 rfl rfl 36 rfl
          exact dp_skip (wanted_u rfl (yv_undef rfl e36)) rfl hJ) ?_
        refine ac rfl (by
          intro k _nm ρ σm hJ hoff hdep
          have e36 := hdep 10 rfl rfl 36 rfl
          exact dp_skip (wanted_u rfl (yv_undef rfl e36)) rfl hJ) ?_
        refine ac rfl (by
          intro k _nm ρ σm hJ hoff hdep
          have e36 := hdep 10 rfl rfl 36 rfl
          exact dp_skip (wanted_u rfl (yv_undef rfl e36)) rfl hJ) ?_
        refine ac rfl (by
          intro k _nm ρ σm hJ hoff hdep
          have e36 := hdep 10 rfl rfl 36 rfl
          exact dp_skip (wanted_u rfl (yv_undef rfl e36)) rfl hJ) ?_
        refine ac rfl (by
          intro k _nm ρ σm hJ hoff hdep
          have e36 := hdep 10 rfl rfl 36 rfl
          exact dp_skip (wanted_u rfl (yv_undef rfl e36)) rfl hJ) ?_
        refine ac rfl (by
          intro k _nm ρ σm hJ hoff hdep
          have e36 := hdep 10 rfl rfl 36 rfl
          exact dp_skip (wanted_u rfl (yv_undef rfl e36)) rfl hJ) ?_
        refine ac rfl (by
          intro k _nm ρ σm hJ hoff hdep
          have e36 := hdep 10 rfl rfl 36 rfl
          exact dp_skip (wanted_u rfl (yv_undef rfl e36)) rfl hJ) ?_
        refine ac rfl (by
          intro k _nm ρ σm hJ hoff hdep
          have e36 := hdep 10 rfl rfl 36 rfl
          exact dp_skip (wanted_u rfl (yv_undef rfl e36)) rfl hJ) ?_
        refine ac rfl (by
          intro k _nm ρ σm hJ hoff hdep
          have e36 := hdep 10 rfl rfl 36 rfl
          exact dp_skip (wanted_u rfl (yv_undef rfl e36)) rfl hJ) ?_
        refine ac rfl (by
          intro k _nm ρ σm hJ hoff hdep
          have e36 := hdep 10 rfl rfl 36 rfl
          exact dp_skip (wanted_u rfl (yv_undef rfl e36)) rfl hJ) ?_
        exact all_nil
       ·intro _nm ρ σ31 hJ hoff hrel
        have e1 := look_off (N := 63) (hoff 1 rfl) rfl
        have e3 := look_off (N := 63) (hoff 3 rfl) rfl
        have e33 := hrel 7 rfl 33 rfl
        have e36 := hrel 10 rfl 36 rfl
        have e41 := hrel 15 rfl 41 rfl
        have e47 := hrel 21 rfl 47 rfl
        obtain ⟨H, -⟩ := (show Hp S0 σ0 σ31 [Ch.ro 0 (Sl ah_0_0 h_0.1 ch_0_0) h_0.1, Ch.ro 0 (Sl ah_0_1 h_0.2 ch_0_1) h_0.2, Ch.bx n0 b1 0 [(Sl ah_0_0 h_0.1 ch_0_0), (Sl ah_0_1 h_0.2 ch_0_1)] [] []] ∧ Md (cov []) σ16 σ31 from hJ)
        clear hJ Hs
        rw [fr_lookL (L := [(1, (pt b1 0)), (3, (I s15)), (33, (B (!r27))), (36, undef), (41, undef), (47, undef)]) ⟨e1, e3, e33, e36, e41, e47, trivial⟩]
        clear hoff hrel e1 e3 e33 e36 e41 e47
        refine st_skip_u rfl ?_
        refine st_skip (congrArg some hb30) ?_
        refine st (v := (B true)) (rv_pick_t (congrArg B hb30) rfl) ?_
        refine w_end ?_
        obtain rfl := Option.some.inj h
        exact ⟨rfl, _, σ31, fr_join ⟨rfl, rfl, rfl, trivial⟩, rfl, H.sel' [0, 1, 2] rfl rfl⟩
      ·replace h := bif_f hb30 h
       rcases Bool.eq_false_or_eq_true (decide (0 < s15)) with hb32 | hb32
       ·replace h := bif_t hb32 h
        have hc33 := H.cell (u := (Sl ah_0_1 h_0.2 ch_0_1)) (o' := 1) 2 1 rfl rfl rfl
        obtain ⟨x34, hx35, h'⟩ := bind_some h
        clear h
        have h := h'; clear h'
        obtain ⟨b37, o38, hi36, -⟩ := (H.ro 1 rfl).ix hx35
        have hc39 := ((H.ro 1 rfl).at hx35 hi36).int
        have hc40 := H.cell (u := (Sl ah_0_1 h_0.2 ch_0_1)) (o' := 1) 2 1 rfl rfl rfl
        obtain ⟨x41, hx42, h'⟩ := bind_some h
        clear h
        have h := h'; clear h'
        obtain ⟨b44, o45, hi43, -⟩ := (H.ro 1 rfl).ix hx42
        have hc46 := ((H.ro 1 rfl).at hx42 hi43).int
        have Hs := H
        refine rg2 (σ := σ16) (Nm := Unit) 22 [5] [[false], [true]] [[(0, 0)], [(0, 0)], [(0, 0)], [(0, 0)], [(0, 0)], [(0, 1)], [(1, 1)], [(1, 1)], [(1, 1)], [(1, 1)], [(1, 1)], [(1, 1)], [(1, 1)], [(1, 1)], [(1, 1)], [(1, 1)], [(1, 1)], [(1, 1)], [(1, 1)], [(1, 1)], [(1, 1)], [(1, 1)]] 1 [fun _ => fun σm => Hp S0 σ0 σm [Ch.ro 0 (Sl ah_0_0 h_0.1 ch_0_0) h_0.1, Ch.ro 0 (Sl ah_0_1 h_0.2 ch_0_1) h_0.2, Ch.bx n0 b1 0 [(Sl ah_0_0 h_0.1 ch_0_0), (Sl ah_0_1 h_0.2 ch_0_1)] [] []] ∧ Md (cov []) σ16 σm, fun _ => fun σm => Hp S0 σ0 σm [Ch.ro 0 (Sl ah_0_0 h_0.1 ch_0_0) h_0.1, Ch.ro 0 (Sl ah_0_1 h_0.2 ch_0_1) h_0.2, Ch.bx n0 b1 0 [(Sl ah_0_0 h_0.1 ch_0_0), (Sl ah_0_1 h_0.2 ch_0_1)] [] []] ∧ Md (cov []) σ16 σm] [fun _ => (pt b1 1), fun _ => (Sl ah_0_1 h_0.2 ch_0_1), fun _ => (I s15), fun _ => (pt b24 o25), fun _ => (I x21), fun _ => (B r27), fun _ => (B (!r27)), fun _ => (B (!r27)), fun _ => (I s15), fun _ => (B (decide (0 < s15))), fun _ => (B (decide (0 < s15))), fun _ => (pt b1 1), fun _ => (Sl ah_0_1 h_0.2 ch_0_1), fun _ => (I s15), fun _ => (pt b37 o38), fun _ => (I x34), fun _ => (pt b1 1), fun _ => (Sl ah_0_1 h_0.2 ch_0_1), fun _ => (I s15), fun _ => (I (w64 (s15 - 1))), fun _ => (pt b44 o45), fun _ => (I x41)] () (by kernel_rfl) (by kernel_rfl) ?_ ?_ ?_
        ·intro σm m0
         exact ⟨H.grow (m0.mono fun _ h => h.elim), m0⟩
        ·refine ac rfl (by
           intro k _nm ρ σm hJ hoff hdep
           have e1 := look_off (N := 63) (hoff 1 rfl) rfl
           exact dp_v (v := (pt b1 1)) wn (rv_fieldAddr (off := 1) (ft := 24) Try.underlying26 rfl ti24 rfl e1) rfl hJ) ?_
         refine all_cons (by
           refine ⟨?_, ?_⟩
           ·intro _nm ρ σm hJ hoff hdep
            have e26 := hdep 0 rfl rfl 26 rfl
            obtain ⟨H, m⟩ := id hJ
            have hc20 := H.cell (u := (Sl ah_0_1 h_0.2 ch_0_1)) (o' := 1) 2 1 rfl rfl rfl
            exact dp_v (v := (Sl ah_0_1 h_0.2 ch_0_1)) wn (rv_load1 Try.underlying24 rfl e26 hc20) rfl hJ
           trivial) ?_
         refine ac rfl (by
           intro k _nm ρ σm hJ hoff hdep
           have e3 := look_off (N := 63) (hoff 3 rfl) rfl
           exact dp_v (v := (I s15)) wn (rv_move e3) rfl hJ) ?_
         refine ac rfl (by
           intro k _nm ρ σm hJ hoff hdep
           have e27 := hdep 1 rfl rfl 27 rfl
           have e28 := hdep 2 rfl rfl 28 rfl
           exact dp_v (v := (pt b24 o25)) wn (rv_ix Try.underlying24 ti3 e27 e28 hi23) rfl hJ) ?_
         refine all_cons (by
           refine ⟨?_, ?_⟩
           ·intro _nm ρ σm hJ hoff hdep
            have e29 := hdep 3 rfl rfl 29 rfl
            obtain ⟨H, m⟩ := id hJ
            replace hc26 := (Hs.ro 1 rfl).hmd hx22 hi23 (k := 0) (by decide) hc26 m
            exact dp_v (v := (I x21)) wn (rv_load1 Try.underlying3 rfl e29 hc26) rfl hJ
           trivial) ?_
         refine all_cons (by
           refine ⟨?_, ?_⟩
           ·intro _nm ρ σm hJ hoff hdep
            have e30 : look 63 ρ 30 = (I x21) := hdep 4 rfl rfl 30 rfl
            obtain ⟨H, m⟩ := id hJ
            refine dp_cx wn (cx_call hc29 (ent_f hc29.fn (by show [look 63 ρ 30, (I 1), (I 1000)] = _; rw [e30])) hn0 (show Hp S0 σ0 _ ([] ++ [Ch.ro 0 (Sl ah_0_0 h_0.1 ch_0_0) h_0.1, Ch.ro 0 (Sl ah_0_1 h_0.2 ch_0_1) h_0.2, Ch.bx n0 b1 0 [(Sl ah_0_0 h_0.1 ch_0_0), (Sl ah_0_1 h_0.2 ch_0_1)] [] []]) from (H.sel' [0, 1, 2] rfl rfl))) ?_
            rintro _ σq ⟨_, ⟨rfl, rfl⟩, H2, m2⟩
            exact ⟨_, (), rfl, rfl, ⟨H2.sel' [0, 1, 2] rfl rfl, m.comp0 m2⟩, stab [0, 1, 2, 3, 4] (by kernel_rfl) ⟨rfl, rfl, rfl, rfl, rfl, trivial⟩⟩
           trivial) ?_
         refine ac rfl (by
           intro k _nm ρ σm hJ hoff hdep
           have e31 := hdep 5 rfl rfl 31 rfl
           exact dp_v (v := (B (!r27))) wn (rv_not e31) rfl hJ) ?_
         refine ac rfl (by
           intro k _nm ρ σm hJ hoff hdep
           have e32 := hdep 6 rfl rfl 32 rfl
           exact dp_v (v := (B (!r27))) wn (rv_move e32) rfl hJ) ?_
         refine ac rfl (by
           intro k _nm ρ σm hJ hoff hdep
           have e3 := look_off (N := 63) (hoff 3 rfl) rfl
           have e33 := hdep 7 rfl rfl 33 rfl
           exact dp_v (v := (I s15)) (wanted_yes rfl (yv_of rfl (e33.trans (congrArg B hb30)))) (rv_move e3) rfl hJ) ?_
         refine ac rfl (by
           intro k _nm ρ σm hJ hoff hdep
           have e34 := hdep 8 rfl rfl 34 rfl
           have e33 := hdep 7 rfl rfl 33 rfl
           exact dp_v (v := (B (decide (0 < s15)))) (wanted_yes rfl (yv_of rfl (e33.trans (congrArg B hb30)))) (rv_gtr (a := s15) (b := 0) e34 rfl) rfl hJ) ?_
         refine ac rfl (by
           intro k _nm ρ σm hJ hoff hdep
           have e35 := hdep 9 rfl rfl 35 rfl
           have e33 := hdep 7 rfl rfl 33 rfl
           exact dp_v (v := (B (decide (0 < s15)))) (wanted_yes rfl (yv_of rfl (e33.trans (congrArg B hb30)))) (rv_move e35) rfl hJ) ?_
         refine ac rfl (by
           intro k _nm ρ σm hJ hoff hdep
           have e1 := look_off (N := 63) (hoff 1 rfl) rfl
           have e36 := hdep 10 rfl rfl 36 rfl
           exact dp_v (v := (pt b1 1)) (wanted_yes rfl (yv_of rfl (e36.trans (congrArg B hb32)))) (rv_fieldAddr (off := 1) (ft := 24) Try.underlying26 rfl ti24 rfl e1) rfl hJ) ?_
         refine all_cons (by
           refine ⟨?_, ?_⟩
           ·intro _nm ρ σm hJ hoff hdep
            have e37 := hdep 11 rfl rfl 37 rfl
            have e36 := hdep 10 rfl rfl 36 rfl
            obtain ⟨H, m⟩ := id hJ
            have hc33 := H.cell (u := (Sl ah_0_1 h_0.2 ch_0_1)) (o' := 1) 2 1 rfl rfl rfl
            exact dp_v (v := (Sl ah_0_1 h_0.2 ch_0_1)) (wanted_yes rfl (yv_of rfl (e36.trans (congrArg B hb32)))) (rv_load1 Try.underlying24 rfl e37 hc33) rfl hJ
           trivial) ?_
         refine ac rfl (by
           intro k _nm ρ σm hJ hoff hdep
           have e3 := look_off (N := 63) (hoff 3 rfl) rfl
           have e36 := hdep 10 rfl rfl 36 rfl
           exact dp_v (v := (I s15)) (wanted_yes rfl (yv_of rfl (e36.trans (congrArg B hb32)))) (rv_move e3) rfl hJ) ?_
         refine ac rfl (by
           intro k _nm ρ σm hJ hoff hdep
           have e38 := hdep 12 rfl rfl 38 rfl
           have e39 := hdep 13 rfl rfl 39 rfl
           have e36 := hdep 10 rfl rfl 36 rfl
           exact dp_v (v := (pt b37 o38)) (wanted_yes rfl (yv_of rfl (e36.trans (congrArg B hb32)))) (rv_ix Try.underlying24 ti3 e38 e39 hi36) rfl hJ) ?_
         refine all_cons (by
           refine ⟨?_, ?_⟩
           ·intro _nm ρ σm hJ hoff hdep
            have e40 := hdep 14 rfl rfl 40 rfl
            have e36 := hdep 10 rfl rfl 36 rfl
            obtain ⟨H, m⟩ := id hJ
            replace hc39 := (Hs.ro 1 rfl).hmd hx35 hi36 (k := 0) (by decide) hc39 m
            exact dp_v (v := (I x34)) (wanted_yes rfl (yv_of rfl (e36.trans (congrArg B hb32)))) (rv_load1 Try.underlying3 rfl e40 hc39) rfl hJ
           trivial) ?_
         refine ac rfl (by
           intro k _nm ρ σm hJ hoff hdep
           have e1 := look_off (N := 63) (hoff 1 rfl) rfl
           have e36 := hdep 10 rfl rfl 36 rfl
           exact dp_v (v := (pt b1 1)) (wanted_yes rfl (yv_of rfl (e36.trans (congrArg B hb32)))) (rv_fieldAddr (off := 1) (ft := 24) Try.underlying26 rfl ti24 rfl e1) rfl hJ) ?_
         refine all_cons (by
           refine ⟨?_, ?_⟩
           ·intro _nm ρ σm hJ hoff hdep
            have e42 := hdep 16 rfl rfl 42 rfl
            have e36 := hdep 10 rfl rfl 36 rfl
            obtain ⟨H, m⟩ := id hJ
            have hc40 := H.cell (u := (Sl ah_0_1 h_0.2 ch_0_1)) (o' := 1) 2 1 rfl rfl rfl
            exact dp_v (v := (Sl ah_0_1 h_0.2 ch_0_1)) (wanted_yes rfl (yv_of rfl (e36.trans (congrArg B hb32)))) (rv_load1 Try.underlying24 rfl e42 hc40) rfl hJ
           trivial) ?_
         refine ac rfl (by
           intro k _nm ρ σm hJ hoff hdep
           have e3 := look_off (N := 63) (hoff 3 rfl) rfl
           have e36 := hdep 10 rfl rfl 36 rfl
           exact dp_v (v := (I s15)) (wanted_yes rfl (yv_of rfl (e36.trans (congrArg B hb32)))) (rv_move e3) rfl hJ) ?_
         refine ac rfl (by
           intro k _nm ρ σm hJ hoff hdep
           have e44 := hdep 18 rfl rfl 44 rfl
           have e36 := hdep 10 rfl rfl 36 rfl
           exact dp_v (v := (I (w64 (s15 - 1)))) (wanted_yes rfl (yv_of rfl (e36.trans (congrArg B hb32)))) (rv_sub (a := s15) (b := 1) e44 rfl) rfl hJ) ?_
         refine ac rfl (by
           intro k _nm ρ σm hJ hoff hdep
           have e43 := hdep 17 rfl rfl 43 rfl
           have e45 := hdep 19 rfl rfl 45 rfl
           have e36 := hdep 10 rfl rfl 36 rfl
           exact dp_v (v := (pt b44 o45)) (wanted_yes rfl (yv_of rfl (e36.trans (congrArg B hb32)))) (rv_ix Try.underlying24 ti3 e43 e45 hi43) rfl hJ) ?_
         refine all_cons (by
           refine ⟨?_, ?_⟩
           ·intro _nm ρ σm hJ hoff hdep
            have e46 := hdep 20 rfl rfl 46 rfl
            have e36 := hdep 10 rfl rfl 36 rfl
            obtain ⟨H, m⟩ := id hJ
            replace hc46 := (Hs.ro 1 rfl).hmd hx42 hi43 (k := 0) (by decide) hc46 m
            exact dp_v (v := (I x41)) (wanted_yes rfl (yv_of rfl (e36.trans (congrArg B hb32)))) (rv_load1 Try.underlying3 rfl e46 hc46) rfl hJ
           trivial) ?_
         exact all_nil
        ·intro _nm ρ σ47 hJ hoff hrel
         have e1 := look_off (N := 63) (hoff 1 rfl) rfl
         have e3 := look_off (N := 63) (hoff 3 rfl) rfl
         have e33 := hrel 7 rfl 33 rfl
         have e36 := hrel 10 rfl 36 rfl
         have e41 := hrel 15 rfl 41 rfl
         have e47 := hrel 21 rfl 47 rfl
         obtain ⟨H, -⟩ := (show Hp S0 σ0 σ47 [Ch.ro 0 (Sl ah_0_0 h_0.1 ch_0_0) h_0.1, Ch.ro 0 (Sl ah_0_1 h_0.2 ch_0_1) h_0.2, Ch.bx n0 b1 0 [(Sl ah_0_0 h_0.1 ch_0_0), (Sl ah_0_1 h_0.2 ch_0_1)] [] []] ∧ Md (cov []) σ16 σ47 from hJ)
         clear hJ Hs
         rw [fr_lookL (L := [(1, (pt b1 0)), (3, (I s15)), (33, (B (!r27))), (36, (B (decide (0 < s15)))), (41, (I x34)), (47, (I x41))]) ⟨e1, e3, e33, e36, e41, e47, trivial⟩]
         clear hoff hrel e1 e3 e33 e36 e41 e47
         refine st_g (v := (B (decide (x34 < x41)))) (congrArg some hb32) (rv_lss (a := x34) (b := x41) rfl rfl) ?_
         refine st_g (v := (B (decide (x34 < x41)))) (congrArg some hb30) (rv_pick_t (congrArg B hb32) rfl) ?_
         refine st (v := (B (decide (x34 < x41)))) (rv_pick_f (congrArg B hb30) rfl) ?_
         refine w_end ?_
         obtain rfl := Option.some.inj h
         exact ⟨rfl, _, σ47, fr_join ⟨rfl, rfl, rfl, trivial⟩, rfl, H.sel' [0, 1, 2] rfl rfl⟩
       ·replace h := bif_f hb32 h
        have Hs := H
        refine rg2 (σ := σ16) (Nm := Unit) 22 [5] [[false], [true]] [[(0, 0)], [(0, 0)], [(0, 0)], [(0, 0)], [(0, 0)], [(0, 1)], [(1, 1)], [(1, 1)], [(1, 1)], [(1, 1)], [(1, 1)], [(1, 1)], [(1, 1)], [(1, 1)], [(1, 1)], [(1, 1)], [(1, 1)], [(1, 1)], [(1, 1)], [(1, 1)], [(1, 1)], [(1, 1)]] 1 [fun _ => fun σm => Hp S0 σ0 σm [Ch.ro 0 (Sl ah_0_0 h_0.1 ch_0_0) h_0.1, Ch.ro 0 (Sl ah_0_1 h_0.2 ch_0_1) h_0.2, Ch.bx n0 b1 0 [(Sl ah_0_0 h_0.1 ch_0_0), (Sl ah_0_1 h_0.2 ch_0_1)] [] []] ∧ Md (cov []) σ16 σm, fun _ => fun σm => Hp S0 σ0 σm [Ch.ro 0 (Sl ah_0_0 h_0.1 ch_0_0) h_0.1, Ch.ro 0 (Sl ah_0_1 h_0.2 ch_0_1) h_0.2, Ch.bx n0 b1 0 [(Sl ah_0_0 h_0.1 ch_0_0), (Sl ah_0_1 h_0.2 ch_0_1)] [] []] ∧ Md (cov []) σ16 σm] [fun _ => (pt b1 1), fun _ => (Sl ah_0_1 h_0.2 ch_0_1), fun _ => (I s15), fun _ => (pt b24 o25), fun _ => (I x21), fun _ => (B r27), fun _ => (B (!r27)), fun _ => (B (!r27)), fun _ => (I s15), fun _ => (B (decide (0 < s15))), fun _ => (B (decide (0 < s15))), fun _ => undef, fun _ => undef, fun _ => undef, fun _ => undef, fun _ => undef, fun _ => undef, fun _ => undef, fun _ => undef, fun _ => undef, fun _ => undef, fun _ => undef] () (by kernel_rfl) (by kernel_rfl) ?_ ?_ ?_
        ·intro σm m0
         exact ⟨H.grow (m0.mono fun _ h => h.elim), m0⟩
        ·refine ac rfl (by
           intro k _nm ρ σm hJ hoff hdep
           have e1 := look_off (N := 63) (hoff 1 rfl) rfl
           exact dp_v (v := (pt b1 1)) wn (rv_fieldAddr (off := 1) (ft := 24) Try.underlying26 rfl ti24 rfl e1) rfl hJ) ?_
         refine all_cons (by
           refine ⟨?_, ?_⟩
           ·intro _nm ρ σm hJ hoff hdep
            have e26 := hdep 0 rfl rfl 26 rfl
            obtain ⟨H, m⟩ := id hJ
            have hc20 := H.cell (u := (Sl ah_0_1 h_0.2 ch_0_1)) (o' := 1) 2 1 rfl rfl rfl
            exact dp_v (v := (Sl ah_0_1 h_0.2 ch_0_1)) wn (rv_load1 Try.underlying24 rfl e26 hc20) rfl hJ
           trivial) ?_
         refine ac rfl (by
           intro k _nm ρ σm hJ hoff hdep
           have e3 := look_off (N := 63) (hoff 3 rfl) rfl
           exact dp_v (v := (I s15)) wn (rv_move e3) rfl hJ) ?_
         refine ac rfl (by
           intro k _nm ρ σm hJ hoff hdep
           have e27 := hdep 1 rfl rfl 27 rfl
           have e28 := hdep 2 rfl rfl 28 rfl
           exact dp_v (v := (pt b24 o25)) wn (rv_ix Try.underlying24 ti3 e27 e28 hi23) rfl hJ) ?_
         refine all_cons (by
           refine ⟨?_, ?_⟩
           ·intro _nm ρ σm hJ hoff hdep
            have e29 := hdep 3 rfl rfl 29 rfl
            obtain ⟨H, m⟩ := id hJ
            replace hc26 := (Hs.ro 1 rfl).hmd hx22 hi23 (k := 0) (by decide) hc26 m
            exact dp_v (v := (I x21)) wn (rv_load1 Try.underlying3 rfl e29 hc26) rfl hJ
           trivial) ?_
         refine all_cons (by
           refine ⟨?_, ?_⟩
           ·intro _nm ρ σm hJ hoff hdep
            have e30 : look 63 ρ 30 = (I x21) := hdep 4 rfl rfl 30 rfl
            obtain ⟨H, m⟩ := id hJ
            refine dp_cx wn (cx_call hc29 (ent_f hc29.fn (by show [look 63 ρ 30, (I 1), (I 1000)] = _; rw [e30])) hn0 (show Hp S0 σ0 _ ([] ++ [Ch.ro 0 (Sl ah_0_0 h_0.1 ch_0_0) h_0.1, Ch.ro 0 (Sl ah_0_1 h_0.2 ch_0_1) h_0.2, Ch.bx n0 b1 0 [(Sl ah_0_0 h_0.1 ch_0_0), (Sl ah_0_1 h_0.2 ch_0_1)] [] []]) from (H.sel' [0, 1, 2] rfl rfl))) ?_
            rintro _ σq ⟨_, ⟨rfl, rfl⟩, H2, m2⟩
            exact ⟨_, (), rfl, rfl, ⟨H2.sel' [0, 1, 2] rfl rfl, m.comp0 m2⟩, stab [0, 1, 2, 3, 4] (by kernel_rfl) ⟨rfl, rfl, rfl, rfl, rfl, trivial⟩⟩
           trivial) ?_
         refine ac rfl (by
           intro k _nm ρ σm hJ hoff hdep
           have e31 := hdep 5 rfl rfl 31 rfl
           exact dp_v (v := (B (!r27))) wn (rv_not e31) rfl hJ) ?_
         refine ac rfl (by
           intro k _nm ρ σm hJ hoff hdep
           have e32 := hdep 6 rfl rfl 32 rfl
           exact dp_v (v := (B (!r27))) wn (rv_move e32) rfl hJ) ?_
         refine ac rfl (by
           intro k _nm ρ σm hJ hoff hdep
           have e3 := look_off (N := 63) (hoff 3 rfl) rfl
           have e33 := hdep 7 rfl rfl 33 rfl
           exact dp_v (v := (I s15)) (wanted_yes rfl (yv_of rfl (e33.trans (congrArg B hb30)))) (rv_move e3) rfl hJ) ?_
         refine ac rfl (by
           intro k _nm ρ σm hJ hoff hdep
           have e34 := hdep 8 rfl rfl 34 rfl
           have e33 := hdep 7 rfl rfl 33 rfl
           exact dp_v (v := (B (decide (0 < s15)))) (wanted_yes rfl (yv_of rfl (e33.trans (congrArg B hb30)))) (rv_gtr (a := s15) (b := 0) e34 rfl) rfl hJ) ?_
         refine ac rfl (by
           intro k _nm ρ σm hJ hoff hdep
           have e35 := hdep 9 rfl rfl 35 rfl
           have e33 := hdep 7 rfl rfl 33 rfl
           exact dp_v (v := (B (decide (0 < s15)))) (wanted_yes rfl (yv_of rfl (e33.trans (congrArg B hb30)))) (rv_move e35) rfl hJ) ?_
         refine ac rfl (by
           intro k _nm ρ σm hJ hoff hdep
           have e36 := hdep 10 rfl rfl 36 rfl
           exact dp_skip (wanted_no rfl (yv_of rfl (e36.trans (congrArg B hb32)))) rfl hJ) ?_
         refine ac rfl (by
           intro k _nm ρ σm hJ hoff hdep
           have e36 := hdep 10 rfl rfl 36 rfl
           exact dp_skip (wanted_no rfl (yv_of rfl (e36.trans (congrArg B hb32)))) rfl hJ) ?_
         refine ac rfl (by
           intro k _nm ρ σm hJ hoff hdep
           have e36 := hdep 10 rfl rfl 36 rfl
           exact dp_skip (wanted_no rfl (yv_of rfl (e36.trans (congrArg B hb32)))) rfl hJ) ?_
         refine ac rfl (by
           intro k _nm ρ σm hJ hoff hdep
           have e36 := hdep 10 rfl rfl 36 rfl
           exact dp_skip (wanted_no rfl (yv_of rfl (e36.trans (congrArg B hb32)))) rfl hJ) ?_
         refine ac rfl (by
           intro k _nm ρ σm hJ hoff hdep
           have e36 := hdep 10 rfl rfl 36 rfl
           exact dp_skip (wanted_no rfl (yv_of rfl (e36.trans (congrArg B hb32)))) rfl hJ) ?_
         refine ac rfl (by
           intro k _nm ρ σm hJ hoff hdep
           have e36 := hdep 10 rfl rfl 36 rfl
           exact dp_skip (wanted_no rfl (yv_of rfl (e36.trans (congrArg B hb32)))) rfl hJ) ?_
         refine ac rfl (by
           intro k _nm ρ σm hJ hoff hdep
           have e36 := hdep 10 rfl rfl 36 rfl
           exact dp_skip (wanted_no rfl (yv_of rfl (e36.trans (congrArg B hb32)))) rfl hJ) ?_
         refine ac rfl (by
           intro k _nm ρ σm hJ hoff hdep
           have e36 := hdep 10 rfl rfl 36 rfl
           exact dp_skip (wanted_no rfl (yv_of rfl (e36.trans (congrArg B hb32)))) rfl hJ) ?_
         refine ac rfl (by
           intro k _nm ρ σm hJ hoff hdep
           have e36 := hdep 10 rfl rfl 36 rfl
           exact dp_skip (wanted_no rfl (yv_of rfl (e36.trans (congrArg B hb32)))) rfl hJ) ?_
         refine ac rfl (by
           intro k _nm ρ σm hJ hoff hdep
           have e36 := hdep 10 rfl rfl 36 rfl
           exact dp_skip (wanted_no rfl (yv_of rfl (e36.trans (congrArg B hb32)))) rfl hJ) ?_
         refine ac rfl (by
           intro k _nm ρ σm hJ hoff hdep
           have e36 := hdep 10 rfl rfl 36 rfl
           exact dp_skip (wanted_no rfl (yv_of rfl (e36.trans (congrArg B hb32)))) rfl hJ) ?_
         exact all_nil
        ·intro _nm ρ σ48 hJ hoff hrel
         have e1 := look_off (N := 63) (hoff 1 rfl) rfl
         have e3 := look_off (N := 63) (hoff 3 rfl) rfl
         have e33 := hrel 7 rfl 33 rfl
         have e36 := hrel 10 rfl 36 rfl
         have e41 := hrel 15 rfl 41 rfl
         have e47 := hrel 21 rfl 47 rfl
         obtain ⟨H, -⟩ := (show Hp S0 σ0 σ48 [Ch.ro 0 (Sl ah_0_0 h_0.1 ch_0_0) h_0.1, Ch.ro 0 (Sl ah_0_1 h_0.2 ch_0_1) h_0.2, Ch.bx n0 b1 0 [(Sl ah_0_0 h_0.1 ch_0_0), (Sl ah_0_1 h_0.2 ch_0_1)] [] []] ∧ Md (cov []) σ16 σ48 from hJ)
         clear hJ Hs
         rw [fr_lookL (L := [(1, (pt b1 0)), (3, (I s15)), (33, (B (!r27))), (36, (B (decide (0 < s15)))), (41, undef), (47, undef)]) ⟨e1, e3, e33, e36, e41, e47, trivial⟩]
         clear hoff hrel e1 e3 e33 e36 e41 e47
         refine st_skip (congrArg some hb32) ?_
         refine st_g (v := (B false)) (congrArg some hb30) (rv_pick_f (congrArg B hb32) rfl) ?_
         refine st (v := (B false)) (rv_pick_f (congrArg B hb30) rfl) ?_
         refine w_end ?_
         obtain rfl := Option.some.inj h
         exact ⟨rfl, _, σ48, fr_join ⟨rfl, rfl, rfl, trivial⟩, rfl, H.sel' [0, 1, 2] rfl rfl⟩
     ·clear hj
      have h := h'
      clear h' H
      rintro e a w ⟨rfl, ρ, σ49, rfl, rfl, H⟩
      refine q_then ?_
      refine cd_cond o19 rfl (fun hb50 => ?_) (fun hb50 => ?_)
      ·replace h := bif_t hb50 h
       refine c_seq ?_
       refine rg ?_
       refine st (v := (B false)) (rv_assign rfl) ?_
       refine w_end ?_
       refine q_then ?_
       refine c_ret ?_
       refine q_blk_r ?_
       refine q_then_r ?_
       refine q_then_r ?_
       refine q_blk_r ?_
       obtain rfl := Option.some.inj h
       obtain rfl := hres _ rfl
       exact .inr (⟨_, rfl, rfl, _, σ49, fr_join ⟨rfl, trivial⟩, rfl, H.sel' [] rfl rfl⟩)
      ·replace h := bif_f hb50 h
       refine c_skip ?_
       refine q_blk ?_
       refine q_then ?_
       refine rg ?_
       refine st (v := (I s15)) (rv_move rfl) ?_
       refine st (v := (I (w64 (s15 + 1)))) (rv_add (a := s15) (b := 1) rfl rfl) ?_
       refine st (v := (I (w64 (s15 + 1)))) (rv_assign rfl) ?_
       refine w_end ?_
       refine q_then ?_
       obtain rfl := Option.some.inj h
       exact ⟨_, rfl, _, σ49, fr_join ⟨rfl, rfl, trivial⟩, rfl, H.sel' [0, 1, 2] rfl rfl⟩
    ·replace h := bif_f hb18 h
     refine c_exit ?_
     refine q_then_x ?_
     refine q_then_x ?_
     refine q_blk_hit ?_
     obtain rfl := Option.some.inj h
     obtain rfl := hres _ rfl
     exact .inl ⟨_, rfl, rfl, _, σ16, fr_join ⟨rfl, trivial⟩, rfl, H.sel' [0, 1, 2] rfl rfl⟩
   ·clear hj
    have h := h'
    clear h' H
    rintro e a w (⟨t51, rfl, rfl, ρ, σ52, rfl, rfl, H⟩ | ⟨t65, rfl, rfl, ρ, σ66, rfl, rfl, H⟩)
    ·replace h := selim_l h
     refine q_then ?_
     refine c_seq ?_
     refine rg ?_
     refine st_ex (ex_buildSlice (el := n0) (xs := ([] : List (Int × (List Int) × Int))) (ps := []) (cs := []) H hn0 Try.underlying32 ti36 rfl rfl (by kernel_rfl) (.nil) rfl) wn ?_
     rintro _ σ54 ⟨b53, rfl, H, -⟩
     refine st (v := (pt b1 0)) (rv_fieldAddr (off := 0) (ft := 23) Try.underlying26 rfl ti23 rfl rfl) ?_
     have hc55 := H.cell (u := (Sl ah_0_0 h_0.1 ch_0_0)) (o' := 0) 3 0 rfl rfl rfl
     refine st (v := (Sl ah_0_0 h_0.1 ch_0_0)) (rv_load1 Try.underlying23 rfl rfl hc55) ?_
     obtain ⟨σ56, hw57, H, -⟩ := H.pub 0 rfl (Nat.le_refl _)
     rw [← hw57]; clear hw57
     replace H := H.roLow 0 0 rfl (Nat.zero_le _)
     obtain ⟨r58, hx59, h'⟩ := bind_some h
     clear h
     have h := h'; clear h'
     have hc60 := c_spec_ReplayLog (alist_0 := (some ⟨b53, 0, none⟩)) (clist_0 := 0) (alog_1 := ah_0_0) (clog_1 := ch_0_0) hx59
     refine st_call (cx_call hc60 (ent_f hc60.fn rfl) hn0 (show Hp S0 σ0 _ ([Ch.ro 0 (Sl (some ⟨b53, 0, none⟩) ([] : List (Int × (List Int) × Int)) 0) ([] : List (Int × (List Int) × Int)), Ch.ro 0 (Sl ah_0_0 h_0.1 ch_0_0) h_0.1] ++ [Ch.ro 0 (Sl (some ⟨b53, 0, none⟩) ([] : List (Int × (List Int) × Int)) 0) ([] : List (Int × (List Int) × Int)), Ch.ro n0 (Sl (some ⟨b53, 0, none⟩) ([] : List (Int × (List Int) × Int)) 0) ([] : List (Int × (List Int) × Int)), Ch.ro 0 (Sl ah_0_0 h_0.1 ch_0_0) h_0.1, Ch.ro 0 (Sl ah_0_1 h_0.2 ch_0_1) h_0.2, Ch.bx n0 b1 0 [(Sl ah_0_0 h_0.1 ch_0_0), (Sl ah_0_1 h_0.2 ch_0_1)] [] []]) from (H.sel' [0, 2, 0, 1, 2, 3, 4] rfl rfl))) wn ?_
     rintro _ σ63 ⟨_, ⟨a61, c62, rfl, rfl⟩, H, -⟩
     replace H : Hp S0 σ0 σ63 [Ch.own n0 n0 (Sl a61 r58.1 c62) r58.1, Ch.ro 0 (Sl (some ⟨b53, 0, none⟩) ([] : List (Int × (List Int) × Int)) 0) ([] : List (Int × (List Int) × Int)), Ch.ro n0 (Sl (some ⟨b53, 0, none⟩) ([] : List (Int × (List Int) × Int)) 0) ([] : List (Int × (List Int) × Int)), Ch.ro 0 (Sl ah_0_0 h_0.1 ch_0_0) h_0.1, Ch.ro 0 (Sl ah_0_1 h_0.2 ch_0_1) h_0.2, Ch.bx n0 b1 0 [(Sl ah_0_0 h_0.1 ch_0_0), (Sl ah_0_1 h_0.2 ch_0_1)] [] []] := H
     refine st (v := (.tuple #[(Sl a61 r58.1 c62), (I r58.2)])) (rv_move rfl) ?_
     refine st (v := (Sl a61 r58.1 c62)) (rv_extract rfl rfl) ?_
     refine st (v := (I r58.2)) (rv_extract rfl rfl) ?_
     refine st (v := (Sl a61 r58.1 c62)) (rv_assign rfl) ?_
     refine st (v := (I r58.2)) (rv_assign rfl) ?_
     refine w_end ?_
     refine q_then ?_
     refine c_seq ?_
     refine rg ?_
     refine st (v := (I r58.2)) (rv_move rfl) ?_
     refine st (v := (pt b1 0)) (rv_fieldAddr (off := 0) (ft := 23) Try.underlying26 rfl ti23 rfl rfl) ?_
     have hc64 := H.cell (u := (Sl ah_0_0 h_0.1 ch_0_0)) (o' := 0) 5 0 rfl rfl rfl
     refine st (v := (Sl ah_0_0 h_0.1 ch_0_0)) (rv_load1 Try.underlying23 rfl rfl hc64) ?_
     refine st (v := (I (h_0.1.length : Int))) (rv_len Try.underlying23 rfl) ?_
     refine st (v := (B (r58.2 == (h_0.1.length : Int)))) (rv_eql (a := r58.2) (b := (h_0.1.length : Int)) rfl rfl) ?_
     refine st (v := (B (r58.2 == (h_0.1.length : Int)))) (rv_assign rfl) ?_
     refine w_end ?_
     refine q_then ?_
     refine c_ret ?_
     obtain rfl := Option.some.inj h
     exact fin_ret (v := (B (r58.2 == (h_0.1.length : Int)))) (results_ok Try.results44 (res_tmp (v := (B (r58.2 == (h_0.1.length : Int)))) rfl res_nil) rfl) ⟨rfl, rfl⟩ (H.sel' [] rfl rfl)
    ·replace h := selim_r h
     refine q_then_r ?_
     obtain rfl := Option.some.inj h
     exact fin_ret (v := (B t65)) (results_ok Try.results44 (res_tmp (v := (B t65)) rfl res_nil) rfl) ⟨rfl, rfl⟩ (H.sel' [] rfl rfl)

theorem c_spec_ValidHistory {h_0 : (List (Int × (Int × (List Int) × Int))) × (List Int)} {ah_0_0 : Option Addr} {ch_0_0 : Nat} {ah_0_1 : Option Addr} {ch_0_1 : Nat} {r : Bool} (h : M.spec_ValidHistory h_0 = some r) :
    Cal2 Try.prog 17 [(.agg #[(Sl ah_0_0 h_0.1 ch_0_0), (Sl ah_0_1 h_0.2 ch_0_1)])] [Ch.ro 0 (Sl ah_0_0 h_0.1 ch_0_0) h_0.1, Ch.ro 0 (Sl ah_0_1 h_0.2 ch_0_1) h_0.2] (fun n0 v L => v = (B r) ∧ L = []) := by
 refine cal2 (n := 5) Try.func17 rfl rfl rfl rfl ?_
 intro S0 σ0 n0 hn0 H
 unfold M.spec_ValidHistory at h
 refine c_seq ?_
 refine rg ?_
 refine st_ex (ex_box (cs := [(Sl ah_0_0 h_0.1 ch_0_0), (Sl ah_0_1 h_0.2 ch_0_1)]) H hn0 rfl rfl) wn ?_
 rintro _ σ2 ⟨b1, rfl, H, -⟩
 refine st (v := (B false)) (rv_assign rfl) ?_
 refine w_end ?_
 refine q_then ?_
 refine c_seq ?_
 refine rg ?_
 have hc3 := H.cells 0 rfl
 refine st (v := (.agg #[(Sl ah_0_0 h_0.1 ch_0_0), (Sl ah_0_1 h_0.2 ch_0_1)])) (rv_load (cs := [(Sl ah_0_0 h_0.1 ch_0_0), (Sl ah_0_1 h_0.2 ch_0_1)]) Try.underlying26 rfl ti26 rfl rfl hc3) ?_
 obtain ⟨r4, hx5, h'⟩ := bind_some h
 clear h
 have h := h'; clear h'
 have hc6 := c_spec_validHistory (ah_0_0 := ah_0_0) (ch_0_0 := ch_0_0) (ah_0_1 := ah_0_1) (ch_0_1 := ch_0_1) hx5
 refine st_call (cx_call hc6 (ent_f hc6.fn rfl) hn0 (show Hp S0 σ0 _ ([Ch.ro 0 (Sl ah_0_0 h_0.1 ch_0_0) h_0.1, Ch.ro 0 (Sl ah_0_1 h_0.2 ch_0_1) h_0.2] ++ [Ch.bx n0 b1 0 [(Sl ah_0_0 h_0.1 ch_0_0), (Sl ah_0_1 h_0.2 ch_0_1)] [] [], Ch.ro 0 (Sl ah_0_0 h_0.1 ch_0_0) h_0.1, Ch.ro 0 (Sl ah_0_1 h_0.2 ch_0_1) h_0.2]) from (H.sel' [1, 2, 0, 1, 2] rfl rfl))) wn ?_
 rintro _ σ7 ⟨_, ⟨rfl, rfl⟩, H, -⟩
 replace H : Hp S0 σ0 σ7 [Ch.bx n0 b1 0 [(Sl ah_0_0 h_0.1 ch_0_0), (Sl ah_0_1 h_0.2 ch_0_1)] [] [], Ch.ro 0 (Sl ah_0_0 h_0.1 ch_0_0) h_0.1, Ch.ro 0 (Sl ah_0_1 h_0.2 ch_0_1) h_0.2] := H
 refine st (v := (B r4)) (rv_assign rfl) ?_
 refine w_end ?_
 refine q_then ?_
 refine c_ret ?_
 obtain rfl := Option.some.inj h
 exact fin_ret (v := (B r4)) (results_ok Try.results17 (res_tmp (v := (B r4)) rfl res_nil) rfl) ⟨rfl, rfl⟩ (H.sel' [] rfl rfl)

theorem c_laws_toIntS {a_0 : List Int} {aa_0 : Option Addr} {ca_0 : Nat} {r : (List Int)} (h : M.laws_toIntS a_0 = some r) :
    Cal2 Try.prog 54 [(Sl aa_0 a_0 ca_0)] [Ch.ro 0 (Sl aa_0 a_0 ca_0) a_0] (fun n0 v L => ∃ (az1 : Option Addr), ∃ (cz2 : Nat), v = (Sl az1 r cz2) ∧ L = [Ch.own n0 n0 (Sl az1 r cz2) r] ∧ cz2 = r.length) := by
 refine cal2 (n := 22) Try.func54 rfl rfl rfl rfl ?_
 intro S0 σ0 n0 hn0 H
 unfold M.laws_toIntS at h
 refine c_seq ?_
 refine rg ?_
 refine st (v := (.slice none 0 0)) (rv_assign rfl) ?_
 refine w_end ?_
 refine q_then ?_
 refine c_seq ?_
 refine rg ?_
 refine st (v := (Sl aa_0 a_0 ca_0)) (rv_move rfl) ?_
 refine st (v := (I (a_0.length : Int))) (rv_len Try.underlying24 rfl) ?_
 obtain ⟨xs1, hx2, h'⟩ := bind_some h
 clear h
 have h := h'; clear h'
 refine st_ex (ex_make (el := n0) (z0 := (0 : Int)) (zs := [(I 0)]) H hn0 Try.underlying24 ti3 rfl rfl rfl (by decide) hx2 rfl rfl) wn ?_
 rintro _ σ6 ⟨b3, c4, rfl, ht5, H, -⟩
 replace ht5 := ht5.trans (gmake_len hx2).symm
 refine st (v := (Sl (some ⟨b3, 0, none⟩) xs1 c4)) (rv_assign rfl) ?_
 refine w_end ?_
 refine q_then ?_
 refine c_seq ?_
 refine c_seq ?_
 refine rg ?_
 refine st (v := (I 0)) (rv_assign rfl) ?_
 refine w_end ?_
 refine q_then ?_
 obtain ⟨o7, hj, h'⟩ := bind_some h
 clear h
 refine c_cut (fun e a w => e = .normal ∧ ∃ (ρ : Nat → Value) (σ : St), a = fr 22 (updL ρ [(3, (Sl (some ⟨b3, 0, none⟩) o7 c4))]) ∧ w = σ.w ∧ Hp S0 σ0 σ [Ch.own n0 n0 (Sl (some ⟨b3, 0, none⟩) o7 c4) o7] ∧ c4 = o7.length ∧ o7.length = xs1.length) ?_ ?_
 ·clear h'
  rename _ = some o7 => h
  refine c_blk ?_
  refine wp_loopM _ h (fun s8 a w => ∃ (ρ : Nat → Value) (σ : St), a = fr 22 (updL ρ [(0, (Sl aa_0 a_0 ca_0)), (3, (Sl (some ⟨b3, 0, none⟩) s8.1 c4)), (4, (I s8.2))]) ∧ w = σ.w ∧ Hp S0 σ0 σ [Ch.ro 0 (Sl aa_0 a_0 ca_0) a_0, Ch.own n0 n0 (Sl (some ⟨b3, 0, none⟩) s8.1 c4) s8.1] ∧ c4 = s8.1.length ∧ s8.1.length = xs1.length) ⟨_, σ6, fr_join ⟨rfl, rfl, rfl, trivial⟩, rfl, H.sel' [1, 0] rfl rfl, ht5, rfl⟩ ?_
  clear h H
  rintro s8 a w o ⟨ρ, σ9, rfl, rfl, H, ht10, hn11⟩ h hres
  refine c_seq ?_
  refine c_seq ?_
  refine rg ?_
  refine st (v := (I s8.2)) (rv_move rfl) ?_
  refine st (v := (Sl aa_0 a_0 ca_0)) (rv_move rfl) ?_
  refine st (v := (I (a_0.length : Int))) (rv_len Try.underlying24 rfl) ?_
  refine st (v := (B (decide (s8.2 < (a_0.length : Int))))) (rv_lss (a := s8.2) (b := (a_0.length : Int)) rfl rfl) ?_
  refine w_end ?_
  refine q_then ?_
  refine cd_cond (decide (s8.2 < (a_0.length : Int))) rfl (fun hb12 => ?_) (fun hb12 => ?_)
  ·replace h := bif_t hb12 h
   refine c_skip ?_
   refine q_then ?_
   refine c_seq ?_
   refine c_blk ?_
   refine rg ?_
   refine st (v := (Sl (some ⟨b3, 0, none⟩) s8.1 c4)) (rv_move rfl) ?_
   refine st (v := (I s8.2)) (rv_move rfl) ?_
   refine st (v := (Sl aa_0 a_0 ca_0)) (rv_move rfl) ?_
   refine st (v := (I s8.2)) (rv_move rfl) ?_
   obtain ⟨x13, hx14, h'⟩ := bind_some h
   clear h
   have h := h'; clear h'
   obtain ⟨b16, o17, hi15, -⟩ := (H.ro 0 rfl).ix hx14
   refine st (v := (pt b16 o17)) (rv_ix Try.underlying24 ti3 rfl rfl hi15) ?_
   have hc18 := ((H.ro 0 rfl).at hx14 hi15).int
   refine st (v := (I x13)) (rv_load1 Try.underlying3 rfl rfl hc18) ?_
   obtain ⟨x19, hx20, h'⟩ := bind_some h
   clear h
   have h := h'; clear h'
   obtain ⟨b22, o23, hi21, -⟩ := (H.own 1 rfl).ix hx20
   refine st (v := (pt b22 o23)) (rv_ix Try.underlying24 ti3 rfl rfl hi21) ?_
   refine st_exS (ex_store_own (e' := x13) (vs := [(I x13)]) (k := 0) H (i := 1) rfl ti3 hx20 hi21 rfl rfl rfl rfl rfl (Nat.le_of_ble_eq_true rfl) (by simp [plain]) (by rintro _ rfl; exact rfl)) wn ?_
   rintro σ24 ⟨H, -⟩
   have hsl : (Sl (some ⟨b3, 0, none⟩) s8.1 c4) = (Sl (some ⟨b3, 0, none⟩) (s8.1.set s8.2.toNat x13) c4) := sl_len List.length_set.symm
   rw [hsl]; rw [hsl] at H; clear hsl
   refine w_end ?_
   refine q_blk ?_
   refine q_then ?_
   refine rg ?_
   refine st (v := (I s8.2)) (rv_move rfl) ?_
   refine st (v := (I (w64 (s8.2 + 1)))) (rv_add (a := s8.2) (b := 1) rfl rfl) ?_
   refine st (v := (I (w64 (s8.2 + 1)))) (rv_assign rfl) ?_
   refine w_end ?_
   refine q_then ?_
   obtain rfl := Option.some.inj h
   exact ⟨_, rfl, _, σ24, fr_join ⟨rfl, rfl, rfl, trivial⟩, rfl, H.sel' [1, 0] rfl rfl, (ht10.trans List.length_set.symm), (List.length_set.trans hn11)⟩
  ·replace h := bif_f hb12 h
   refine c_exit ?_
   refine q_then_x ?_
   refine q_then_x ?_
   refine q_blk_hit ?_
   obtain rfl := Option.some.inj h
   obtain rfl := hres _ rfl
   exact ⟨rfl, _, σ9, fr_join ⟨rfl, trivial⟩, rfl, H.sel' [1] rfl rfl, ht10, hn11⟩
 ·clear hj
  have h := h'
  clear h' H
  rintro e a w ⟨rfl, ρ, σ25, rfl, rfl, H, ht26, hn27⟩
  refine q_then ?_
  refine c_seq ?_
  refine rg ?_
  refine st (v := (Sl (some ⟨b3, 0, none⟩) o7 c4)) (rv_move rfl) ?_
  refine st (v := (Sl (some ⟨b3, 0, none⟩) o7 c4)) (rv_assign rfl) ?_
  refine w_end ?_
  refine q_then ?_
  refine c_ret ?_
  obtain rfl := Option.some.inj h
  exact fin_ret (v := (Sl (some ⟨b3, 0, none⟩) o7 c4)) (results_ok Try.results54 (res_tmp (v := (Sl (some ⟨b3, 0, none⟩) o7 c4)) rfl res_nil) rfl) ⟨(some ⟨b3, 0, none⟩), c4, rfl, rfl, ht26⟩ (H.sel' [0] rfl rfl)

theorem c_laws_toItem {a_0 : Int × (List Int) × Int} {aa_0_1 : Option Addr} {ca_0_1 : Nat} {r : (Int × (List Int) × Int)} (h : M.laws_toItem a_0 = some r) :
    Cal2 Try.prog 64 [(.agg #[(I a_0.1), (Sl aa_0_1 a_0.2.1 ca_0_1), (I a_0.2.2)])] [Ch.ro 0 (Sl aa_0_1 a_0.2.1 ca_0_1) a_0.2.1] (fun n0 v L => ∃ (az1 : Option Addr), ∃ (cz2 : Nat), v = (.agg #[(I r.1), (Sl az1 r.2.1 cz2), (I r.2.2)]) ∧ L = [Ch.own n0 n0 (Sl az1 r.2.1 cz2) r.2.1] ∧ cz2 = r.2.1.length) := by
 refine cal2 (n := 15) Try.func64 rfl rfl rfl rfl ?_
 intro S0 σ0 n0 hn0 H
 unfold M.laws_toItem at h
 refine c_seq ?_
 refine rg ?_
 refine st_ex (ex_box (cs := [(I a_0.1), (Sl aa_0_1 a_0.2.1 ca_0_1), (I a_0.2.2)]) H hn0 rfl rfl) wn ?_
 rintro _ σ2 ⟨b1, rfl, H, -⟩
 refine st_ex (ex_alloc (cs := [(I 0), (.slice none 0 0), (I 0)]) H hn0 ti36 rfl) wn ?_
 rintro _ σ4 ⟨b3, rfl, H, -⟩
 refine w_end ?_
 refine q_then ?_
 refine c_seq ?_
 refine rg ?_
 refine st_ex (ex_alloc (cs := [(I 0), (.slice none 0 0), (I 0)]) H hn0 ti36 rfl) wn ?_
 rintro _ σ6 ⟨b5, rfl, H, -⟩
 refine w_end ?_
 refine q_then ?_
 refine c_seq ?_
 refine rg ?_
 refine st (v := (pt b1 0)) (rv_fieldAddr (off := 0) (ft := 3) Try.underlying49 rfl ti3 rfl rfl) ?_
 have hc7 := H.cell (u := (I a_0.1)) (o' := 0) 2 0 rfl rfl rfl
 refine st (v := (I a_0.1)) (rv_load1 Try.underlying3 rfl rfl hc7) ?_
 refine st (v := (pt b5 0)) (rv_fieldAddr (off := 0) (ft := 3) Try.underlying36 rfl ti3 rfl rfl) ?_
 refine st_exS (ex_store_box (k := 0) (cs := [(I 0), (.slice none 0 0), (I 0)]) (vs := [(I a_0.1)]) (cs' := [(I a_0.1), (.slice none 0 0), (I 0)]) H (i := 0) rfl ti3 rfl rfl rfl rfl rfl (Nat.le_of_ble_eq_true rfl) (by simp [plain]) rfl) wn ?_
 rintro σ8 ⟨H, -⟩
 refine w_end ?_
 refine q_then ?_
 refine c_seq ?_
 refine rg ?_
 refine st (v := (pt b1 1)) (rv_fieldAddr (off := 1) (ft := 24) Try.underlying49 rfl ti24 rfl rfl) ?_
 have hc9 := H.cell (u := (Sl aa_0_1 a_0.2.1 ca_0_1)) (o' := 1) 2 1 rfl rfl rfl
 refine st (v := (Sl aa_0_1 a_0.2.1 ca_0_1)) (rv_load1 Try.underlying24 rfl rfl hc9) ?_
 obtain ⟨r10, hx11, h'⟩ := bind_some h
 clear h
 have h := h'; clear h'
 have hc12 := c_laws_toIntS (aa_0 := aa_0_1) (ca_0 := ca_0_1) hx11
 refine st_call (cx_call hc12 (ent_f hc12.fn rfl) hn0 (show Hp S0 σ0 _ ([Ch.ro 0 (Sl aa_0_1 a_0.2.1 ca_0_1) a_0.2.1] ++ [Ch.bx n0 b5 0 [(I a_0.1), (.slice none 0 0), (I 0)] [] [], Ch.bx n0 b3 0 [(I 0), (.slice none 0 0), (I 0)] [] [], Ch.bx n0 b1 0 [(I a_0.1), (Sl aa_0_1 a_0.2.1 ca_0_1), (I a_0.2.2)] [] [], Ch.ro 0 (Sl aa_0_1 a_0.2.1 ca_0_1) a_0.2.1]) from (H.sel' [3, 0, 1, 2, 3] rfl rfl))) wn ?_
 rintro _ σ16 ⟨_, ⟨a13, c14, rfl, rfl, ht15⟩, H, -⟩
 replace H : Hp S0 σ0 σ16 [Ch.own n0 n0 (Sl a13 r10 c14) r10, Ch.bx n0 b5 0 [(I a_0.1), (.slice none 0 0), (I 0)] [] [], Ch.bx n0 b3 0 [(I 0), (.slice none 0 0), (I 0)] [] [], Ch.bx n0 b1 0 [(I a_0.1), (Sl aa_0_1 a_0.2.1 ca_0_1), (I a_0.2.2)] [] [], Ch.ro 0 (Sl aa_0_1 a_0.2.1 ca_0_1) a_0.2.1] := H
 refine st (v := (pt b5 1)) (rv_fieldAddr (off := 1) (ft := 24) Try.underlying36 rfl ti24 rfl rfl) ?_
 refine st_exS (ex_store_box (k := 1) (cs := [(I a_0.1), (.slice none 0 0), (I 0)]) (vs := [(Sl a13 r10 c14)]) (cs' := [(I a_0.1), (Sl a13 r10 c14), (I 0)]) H (i := 1) rfl ti24 rfl rfl rfl rfl rfl (Nat.le_of_ble_eq_true rfl) (by simp [plain]) rfl) wn ?_
 rintro σ17 ⟨H, -⟩
 refine w_end ?_
 refine q_then ?_
 refine c_seq ?_
 refine rg ?_
 refine st (v := (pt b1 2)) (rv_fieldAddr (off := 2) (ft := 3) Try.underlying49 rfl ti3 rfl rfl) ?_
 have hc18 := H.cell (u := (I a_0.2.2)) (o' := 2) 3 2 rfl rfl rfl
 refine st (v := (I a_0.2.2)) (rv_load1 Try.underlying3 rfl rfl hc18) ?_
 refine st (v := (pt b5 2)) (rv_fieldAddr (off := 2) (ft := 3) Try.underlying36 rfl ti3 rfl rfl) ?_
 refine st_exS (ex_store_box (k := 2) (cs := [(I a_0.1), (Sl a13 r10 c14), (I 0)]) (vs := [(I a_0.2.2)]) (cs' := [(I a_0.1), (Sl a13 r10 c14), (I a_0.2.2)]) H (i := 0) rfl ti3 rfl rfl rfl rfl rfl (Nat.le_of_ble_eq_true rfl) (by simp [plain]) rfl) wn ?_
 rintro σ19 ⟨H, -⟩
 refine w_end ?_
 refine q_then ?_
 refine c_seq ?_
 refine rg ?_
 have hc20 := H.cells 0 rfl
 refine st (v := (.agg #[(I a_0.1), (Sl a13 r10 c14), (I a_0.2.2)])) (rv_load (cs := [(I a_0.1), (Sl a13 r10 c14), (I a_0.2.2)]) Try.underlying36 rfl ti36 rfl rfl hc20) ?_
 refine st_exS (ex_store_box (k := 0) (cs := [(I 0), (.slice none 0 0), (I 0)]) (vs := [(I a_0.1), (Sl a13 r10 c14), (I a_0.2.2)]) (cs' := [(I a_0.1), (Sl a13 r10 c14), (I a_0.2.2)]) H (i := 2) rfl ti36 rfl rfl rfl rfl rfl (Nat.le_of_ble_eq_true rfl) (by simp [plain]) rfl) wn ?_
 rintro σ21 ⟨H, -⟩
 refine w_end ?_
 refine q_then ?_
 refine c_ret ?_
 obtain rfl := Option.some.inj h
 exact fin_ret (v := (.agg #[(I a_0.1), (Sl a13 r10 c14), (I a_0.2.2)])) (results_ok Try.results64 (res_cell rfl (run_cellRes (cs := [(I a_0.1), (Sl a13 r10 c14), (I a_0.2.2)]) Try.underlying36 rfl ti36 rfl (H.cells 0 rfl)) res_nil) rfl) ⟨a13, c14, rfl, rfl, ht15⟩ (H.sel' [2] rfl rfl)

theorem c_laws_toEntry {a_0 : Int × (Int × (List Int) × Int)} {aa_0_1_1 : Option Addr} {ca_0_1_1 : Nat} {r : (Int × (Int × (List Int) × Int))} (h : M.laws_toEntry a_0 = some r) :
    Cal2 Try.prog 27 [(.agg #[(I a_0.1), (I a_0.2.1), (Sl aa_0_1_1 a_0.2.2.1 ca_0_1_1), (I a_0.2.2.2)])] [Ch.ro 0 (Sl aa_0_1_1 a_0.2.2.1 ca_0_1_1) a_0.2.2.1] (fun n0 v L => ∃ (az1 : Option Addr), ∃ (cz2 : Nat), v = (.agg #[(I r.1), (I r.2.1), (Sl az1 r.2.2.1 cz2), (I r.2.2.2)]) ∧ L = [Ch.own n0 n0 (Sl az1 r.2.2.1 cz2) r.2.2.1] ∧ cz2 = r.2.2.1.length) := by
 refine cal2 (n := 12) Try.func27 rfl rfl rfl rfl ?_
 intro S0 σ0 n0 hn0 H
 unfold M.laws_toEntry at h
 refine c_seq ?_
 refine rg ?_
 refine st_ex (ex_box (cs := [(I a_0.1), (I a_0.2.1), (Sl aa_0_1_1 a_0.2.2.1 ca_0_1_1), (I a_0.2.2.2)]) H hn0 rfl rfl) wn ?_
 rintro _ σ2 ⟨b1, rfl, H, -⟩
 refine st_ex (ex_alloc (cs := [(I 0), (I 0), (.slice none 0 0), (I 0)]) H hn0 ti56 rfl) wn ?_
 rintro _ σ4 ⟨b3, rfl, H, -⟩
 refine w_end ?_
 refine q_then ?_
 refine c_seq ?_
 refine rg ?_
 refine st_ex (ex_alloc (cs := [(I 0), (I 0), (.slice none 0 0), (I 0)]) H hn0 ti56 rfl) wn ?_
 rintro _ σ6 ⟨b5, rfl, H, -⟩
 refine w_end ?_
 refine q_then ?_
 refine c_seq ?_
 refine rg ?_
 refine st (v := (pt b1 0)) (rv_fieldAddr (off := 0) (ft := 3) Try.underlying51 rfl ti3 rfl rfl) ?_
 have hc7 := H.cell (u := (I a_0.1)) (o' := 0) 2 0 rfl rfl rfl
 refine st (v := (I a_0.1)) (rv_load1 Try.underlying3 rfl rfl hc7) ?_
 refine st (v := (pt b5 0)) (rv_fieldAddr (off := 0) (ft := 3) Try.underlying56 rfl ti3 rfl rfl) ?_
 refine st_exS (ex_store_box (k := 0) (cs := [(I 0), (I 0), (.slice none 0 0), (I 0)]) (vs := [(I a_0.1)]) (cs' := [(I a_0.1), (I 0), (.slice none 0 0), (I 0)]) H (i := 0) rfl ti3 rfl rfl rfl rfl rfl (Nat.le_of_ble_eq_true rfl) (by simp [plain]) rfl) wn ?_
 rintro σ8 ⟨H, -⟩
 refine w_end ?_
 refine q_then ?_
 refine c_seq ?_
 refine rg ?_
 refine st (v := (pt b1 1)) (rv_fieldAddr (off := 1) (ft := 49) Try.underlying51 rfl ti49 rfl rfl) ?_
 have hc9 := H.part (us := [(I a_0.2.1), (Sl aa_0_1_1 a_0.2.2.1 ca_0_1_1), (I a_0.2.2.2)]) (o' := 1) 2 1 3 rfl rfl rfl rfl
 refine st (v := (.agg #[(I a_0.2.1), (Sl aa_0_1_1 a_0.2.2.1 ca_0_1_1), (I a_0.2.2.2)])) (rv_load (cs := [(I a_0.2.1), (Sl aa_0_1_1 a_0.2.2.1 ca_0_1_1), (I a_0.2.2.2)]) Try.underlying49 rfl ti49 rfl rfl hc9) ?_
 obtain ⟨r10, hx11, h'⟩ := bind_some h
 clear h
 have h := h'; clear h'
 have hc12 := c_laws_toItem (aa_0_1 := aa_0_1_1) (ca_0_1 := ca_0_1_1) hx11
 refine st_call (cx_call hc12 (ent_f hc12.fn rfl) hn0 (show Hp S0 σ0 _ ([Ch.ro 0 (Sl aa_0_1_1 a_0.2.2.1 ca_0_1_1) a_0.2.2.1] ++ [Ch.bx n0 b5 0 [(I a_0.1), (I 0), (.slice none 0 0), (I 0)] [] [], Ch.bx n0 b3 0 [(I 0), (I 0), (.slice none 0 0), (I 0)] [] [], Ch.bx n0 b1 0 [(I a_0.1), (I a_0.2.1), (Sl aa_0_1_1 a_0.2.2.1 ca_0_1_1), (I a_0.2.2.2)] [] [], Ch.ro 0 (Sl aa_0_1_1 a_0.2.2.1 ca_0_1_1) a_0.2.2.1]) from (H.sel' [3, 0, 1, 2, 3] rfl rfl))) wn ?_
 rintro _ σ16 ⟨_, ⟨a13, c14, rfl, rfl, ht15⟩, H, -⟩
 replace H : Hp S0 σ0 σ16 [Ch.own n0 n0 (Sl a13 r10.2.1 c14) r10.2.1, Ch.bx n0 b5 0 [(I a_0.1), (I 0), (.slice none 0 0), (I 0)] [] [], Ch.bx n0 b3 0 [(I 0), (I 0), (.slice none 0 0), (I 0)] [] [], Ch.bx n0 b1 0 [(I a_0.1), (I a_0.2.1), (Sl aa_0_1_1 a_0.2.2.1 ca_0_1_1), (I a_0.2.2.2)] [] [], Ch.ro 0 (Sl aa_0_1_1 a_0.2.2.1 ca_0_1_1) a_0.2.2.1] := H
 refine st (v := (pt b5 1)) (rv_fieldAddr (off := 1) (ft := 36) Try.underlying56 rfl ti36 rfl rfl) ?_
 refine st_exS (ex_store_box (k := 1) (cs := [(I a_0.1), (I 0), (.slice none 0 0), (I 0)]) (vs := [(I r10.1), (Sl a13 r10.2.1 c14), (I r10.2.2)]) (cs' := [(I a_0.1), (I r10.1), (Sl a13 r10.2.1 c14), (I r10.2.2)]) H (i := 1) rfl ti36 rfl rfl rfl rfl rfl (Nat.le_of_ble_eq_true rfl) (by simp [plain]) rfl) wn ?_
 rintro σ17 ⟨H, -⟩
 refine w_end ?_
 refine q_then ?_
 refine c_seq ?_
 refine rg ?_
 have hc18 := H.cells 0 rfl
 refine st (v := (.agg #[(I a_0.1), (I r10.1), (Sl a13 r10.2.1 c14), (I r10.2.2)])) (rv_load (cs := [(I a_0.1), (I r10.1), (Sl a13 r10.2.1 c14), (I r10.2.2)]) Try.underlying56 rfl ti56 rfl rfl hc18) ?_
 refine st_exS (ex_store_box (k := 0) (cs := [(I 0), (I 0), (.slice none 0 0), (I 0)]) (vs := [(I a_0.1), (I r10.1), (Sl a13 r10.2.1 c14), (I r10.2.2)]) (cs' := [(I a_0.1), (I r10.1), (Sl a13 r10.2.1 c14), (I r10.2.2)]) H (i := 2) rfl ti56 rfl rfl rfl rfl rfl (Nat.le_of_ble_eq_true rfl) (by simp [plain]) rfl) wn ?_
 rintro σ19 ⟨H, -⟩
 refine w_end ?_
 refine q_then ?_
 refine c_ret ?_
 obtain rfl := Option.some.inj h
 exact fin_ret (v := (.agg #[(I a_0.1), (I r10.1), (Sl a13 r10.2.1 c14), (I r10.2.2)])) (results_ok Try.results27 (res_cell rfl (run_cellRes (cs := [(I a_0.1), (I r10.1), (Sl a13 r10.2.1 c14), (I r10.2.2)]) Try.underlying56 rfl ti56 rfl (H.cells 0 rfl)) res_nil) rfl) ⟨a13, c14, rfl, rfl, ht15⟩ (H.sel' [2] rfl rfl)

theorem c_laws_toEntryS {a_0 : List (Int × (Int × (List Int) × Int))} {aa_0 : Option Addr} {ca_0 : Nat} {r : (List (Int × (Int × (List Int) × Int)))} (h : M.laws_toEntryS a_0 = some r) :
    Cal2 Try.prog 53 [(Sl aa_0 a_0 ca_0)] [Ch.ro 0 (Sl aa_0 a_0 ca_0) a_0] (fun n0 v L => ∃ (az1 : Option Addr), ∃ (cz2 : Nat), v = (Sl az1 r cz2) ∧ L = [Ch.own n0 n0 (Sl az1 r cz2) r] ∧ cz2 = r.length) := by
 refine cal2 (n := 23) Try.func53 rfl rfl rfl rfl ?_
 intro S0 σ0 n0 hn0 H
 unfold M.laws_toEntryS at h
 refine c_seq ?_
 refine rg ?_
 refine st (v := (.slice none 0 0)) (rv_assign rfl) ?_
 refine w_end ?_
 refine q_then ?_
 refine c_seq ?_
 refine rg ?_
 refine st (v := (Sl aa_0 a_0 ca_0)) (rv_move rfl) ?_
 refine st (v := (I (a_0.length : Int))) (rv_len Try.underlying38 rfl) ?_
 obtain ⟨xs1, hx2, h'⟩ := bind_some h
 clear h
 have h := h'; clear h'
 refine st_ex (ex_make (el := n0) (z0 := ((0, (0, [], 0)) : Int × (Int × (List Int) × Int))) (zs := [(I 0), (I 0), (.slice none 0 0), (I 0)]) H hn0 Try.underlying23 ti56 rfl rfl (⟨[(I 0)], [(I 0), (.slice none 0 0), (I 0)], rfl, rfl, ⟨[(I 0)], [(.slice none 0 0), (I 0)], rfl, rfl, ⟨[(.slice none 0 0)], [(I 0)], rfl, ⟨_, rfl, RS.nil⟩, rfl⟩⟩⟩) (by decide) hx2 rfl rfl) wn ?_
 rintro _ σ6 ⟨b3, c4, rfl, ht5, H, -⟩
 replace ht5 := ht5.trans (gmake_len hx2).symm
 refine st (v := (Sl (some ⟨b3, 0, none⟩) xs1 c4)) (rv_assign rfl) ?_
 refine w_end ?_
 refine q_then ?_
 refine c_seq ?_
 refine c_seq ?_
 refine rg ?_
 refine st (v := (I 0)) (rv_assign rfl) ?_
 refine w_end ?_
 refine q_then ?_
 obtain ⟨o7, hj, h'⟩ := bind_some h
 clear h
 refine c_cut (fun e a w => e = .normal ∧ ∃ (ρ : Nat → Value) (σ : St), a = fr 23 (updL ρ [(3, (Sl (some ⟨b3, 0, none⟩) o7 c4))]) ∧ w = σ.w ∧ Hp S0 σ0 σ [Ch.own n0 n0 (Sl (some ⟨b3, 0, none⟩) o7 c4) o7] ∧ c4 = o7.length ∧ o7.length = xs1.length) ?_ ?_
 ·clear h'
  rename _ = some o7 => h
  refine c_blk ?_
  refine wp_loopM _ h (fun s8 a w => ∃ (ρ : Nat → Value) (σ : St), a = fr 23 (updL ρ [(0, (Sl aa_0 a_0 ca_0)), (3, (Sl (some ⟨b3, 0, none⟩) s8.1 c4)), (4, (I s8.2))]) ∧ w = σ.w ∧ Hp S0 σ0 σ [Ch.ro 0 (Sl aa_0 a_0 ca_0) a_0, Ch.own n0 n0 (Sl (some ⟨b3, 0, none⟩) s8.1 c4) s8.1] ∧ c4 = s8.1.length ∧ s8.1.length = xs1.length) ⟨_, σ6, fr_join ⟨rfl, rfl, rfl, trivial⟩, rfl, H.sel' [1, 0] rfl rfl, ht5, rfl⟩ ?_
  clear h H
  rintro s8 a w o ⟨ρ, σ9, rfl, rfl, H, ht10, hn11⟩ h hres
  refine c_seq ?_
  refine c_seq ?_
  refine rg ?_
  refine st (v := (I s8.2)) (rv_move rfl) ?_
  refine st (v := (Sl aa_0 a_0 ca_0)) (rv_move rfl) ?_
  refine st (v := (I (a_0.length : Int))) (rv_len Try.underlying38 rfl) ?_
  refine st (v := (B (decide (s8.2 < (a_0.length : Int))))) (rv_lss (a := s8.2) (b := (a_0.length : Int)) rfl rfl) ?_
  refine w_end ?_
  refine q_then ?_
  refine cd_cond (decide (s8.2 < (a_0.length : Int))) rfl (fun hb12 => ?_) (fun hb12 => ?_)
  ·replace h := bif_t hb12 h
   refine c_skip ?_
   refine q_then ?_
   refine c_seq ?_
   refine c_blk ?_
   refine rg ?_
   refine st (v := (Sl (some ⟨b3, 0, none⟩) s8.1 c4)) (rv_move rfl) ?_
   refine st (v := (I s8.2)) (rv_move rfl) ?_
   refine st (v := (Sl aa_0 a_0 ca_0)) (rv_move rfl) ?_
   refine st (v := (I s8.2)) (rv_move rfl) ?_
   obtain ⟨x13, hx14, h'⟩ := bind_some h
   clear h
   have h := h'; clear h'
   obtain ⟨b16, o17, hi15, -⟩ := (H.ro 0 rfl).ix hx14
   refine st (v := (pt b16 o17)) (rv_ix Try.underlying38 ti51 rfl rfl hi15) ?_
   obtain ⟨_, ⟨_, _, rfl, rfl, ⟨_, _, rfl, rfl, ⟨_, _, rfl, ⟨_, rfl, hR22⟩, rfl⟩⟩⟩, hl18, hc19⟩ := ((H.ro 0 rfl).at hx14 hi15).cells
   obtain ⟨a20, c21, rfl⟩ := hR22.isSl
   replace H := H.add (d := Ch.ro 0 (Sl a20 x13.2.2.1 c21) x13.2.2.1) hR22 (fun _ h => h)
   clear hR22
   refine st (v := (.agg #[(I x13.1), (I x13.2.1), (Sl a20 x13.2.2.1 c21), (I x13.2.2.2)])) (rv_load Try.underlying51 rfl ti51 rfl hl18 hc19) ?_
   obtain ⟨r23, hx24, h'⟩ := bind_some h
   clear h
   have h := h'; clear h'
   have hc25 := c_laws_toEntry (aa_0_1_1 := a20) (ca_0_1_1 := c21) hx24
   refine st_call (cx_call hc25 (ent_f hc25.fn rfl) hn0 (show Hp S0 σ0 _ ([Ch.ro 0 (Sl a20 x13.2.2.1 c21) x13.2.2.1] ++ [Ch.ro 0 (Sl a20 x13.2.2.1 c21) x13.2.2.1, Ch.ro 0 (Sl aa_0 a_0 ca_0) a_0, Ch.own n0 n0 (Sl (some ⟨b3, 0, none⟩) s8.1 c4) s8.1]) from (H.sel' [0, 0, 1, 2] rfl rfl))) wn ?_
   rintro _ σ29 ⟨_, ⟨a26, c27, rfl, rfl, ht28⟩, H, -⟩
   replace H : Hp S0 σ0 σ29 [Ch.own n0 n0 (Sl a26 r23.2.2.1 c27) r23.2.2.1, Ch.ro 0 (Sl a20 x13.2.2.1 c21) x13.2.2.1, Ch.ro 0 (Sl aa_0 a_0 ca_0) a_0, Ch.own n0 n0 (Sl (some ⟨b3, 0, none⟩) s8.1 c4) s8.1] := H
   obtain ⟨x30, hx31, h'⟩ := bind_some h
   clear h
   have h := h'; clear h'
   obtain ⟨b33, o34, hi32, -⟩ := (H.own 3 rfl).ix hx31
   refine st (v := (pt b33 o34)) (rv_ix Try.underlying23 ti56 rfl rfl hi32) ?_
   obtain ⟨σ35, hw36, H, -⟩ := H.pub 0 rfl (Nat.le_refl _)
   rw [← hw36]; clear hw36
   refine st_exS (ex_store_own (e' := (r23.1, (r23.2.1, r23.2.2.1, r23.2.2.2))) (vs := [(I r23.1), (I r23.2.1), (Sl a26 r23.2.2.1 c27), (I r23.2.2.2)]) (k := 0) H (i := 3) rfl ti56 hx31 hi32 rfl rfl rfl rfl rfl (Nat.le_of_ble_eq_true rfl) (by simp [plain]) (by rintro _ ⟨_, _, rfl, rfl, ⟨_, _, rfl, rfl, ⟨_, _, rfl, ⟨_, rfl, hR39⟩, rfl⟩⟩⟩; exact ⟨[(I r23.1)], [(I r23.2.1), (Sl a26 r23.2.2.1 c27), (I r23.2.2.2)], rfl, rfl, ⟨[(I r23.2.1)], [(Sl a26 r23.2.2.1 c27), (I r23.2.2.2)], rfl, rfl, ⟨[(Sl a26 r23.2.2.1 c27)], [(I r23.2.2.2)], rfl, ⟨_, rfl, (H.ro 0 rfl)⟩, rfl⟩⟩⟩)) wn ?_
   rintro σ40 ⟨H, -⟩
   have hsl : (Sl (some ⟨b3, 0, none⟩) s8.1 c4) = (Sl (some ⟨b3, 0, none⟩) (s8.1.set s8.2.toNat (r23.1, (r23.2.1, r23.2.2.1, r23.2.2.2))) c4) := sl_len List.length_set.symm
   rw [hsl]; rw [hsl] at H; clear hsl
   refine w_end ?_
   refine q_blk ?_
   refine q_then ?_
   refine rg ?_
   refine st (v := (I s8.2)) (rv_move rfl) ?_
   refine st (v := (I (w64 (s8.2 + 1)))) (rv_add (a := s8.2) (b := 1) rfl rfl) ?_
   refine st (v := (I (w64 (s8.2 + 1)))) (rv_assign rfl) ?_
   refine w_end ?_
   refine q_then ?_
   obtain rfl := Option.some.inj h
   exact ⟨_, rfl, _, σ40, fr_join ⟨rfl, rfl, rfl, trivial⟩, rfl, H.sel' [3, 0] rfl rfl, (ht10.trans List.length_set.symm), (List.length_set.trans hn11)⟩
  ·replace h := bif_f hb12 h
   refine c_exit ?_
   refine q_then_x ?_
   refine q_then_x ?_
   refine q_blk_hit ?_
   obtain rfl := Option.some.inj h
   obtain rfl := hres _ rfl
   exact ⟨rfl, _, σ9, fr_join ⟨rfl, trivial⟩, rfl, H.sel' [1] rfl rfl, ht10, hn11⟩
 ·clear hj
  have h := h'
  clear h' H
  rintro e a w ⟨rfl, ρ, σ41, rfl, rfl, H, ht42, hn43⟩
  refine q_then ?_
  refine c_seq ?_
  refine rg ?_
  refine st (v := (Sl (some ⟨b3, 0, none⟩) o7 c4)) (rv_move rfl) ?_
  refine st (v := (Sl (some ⟨b3, 0, none⟩) o7 c4)) (rv_assign rfl) ?_
  refine w_end ?_
  refine q_then ?_
  refine c_ret ?_
  obtain rfl := Option.some.inj h
  exact fin_ret (v := (Sl (some ⟨b3, 0, none⟩) o7 c4)) (results_ok Try.results53 (res_tmp (v := (Sl (some ⟨b3, 0, none⟩) o7 c4)) rfl res_nil) rfl) ⟨(some ⟨b3, 0, none⟩), c4, rfl, rfl, ht42⟩ (H.sel' [0] rfl rfl)

theorem c_laws_toHistory {a_0 : (List (Int × (Int × (List Int) × Int))) × (List Int)} {aa_0_0 : Option Addr} {ca_0_0 : Nat} {aa_0_1 : Option Addr} {ca_0_1 : Nat} {r : ((List (Int × (Int × (List Int) × Int))) × (List Int))} (h : M.laws_toHistory a_0 = some r) :
    Cal2 Try.prog 18 [(.agg #[(Sl aa_0_0 a_0.1 ca_0_0), (Sl aa_0_1 a_0.2 ca_0_1)])] [Ch.ro 0 (Sl aa_0_0 a_0.1 ca_0_0) a_0.1, Ch.ro 0 (Sl aa_0_1 a_0.2 ca_0_1) a_0.2] (fun n0 v L => ∃ (az1 : Option Addr), ∃ (cz2 : Nat), ∃ (az4 : Option Addr), ∃ (cz5 : Nat), v = (.agg #[(Sl az1 r.1 cz2), (Sl az4 r.2 cz5)]) ∧ L = [Ch.own n0 n0 (Sl az1 r.1 cz2) r.1, Ch.own n0 n0 (Sl az4 r.2 cz5) r.2] ∧ cz2 = r.1.length ∧ cz5 = r.2.length) := by
 refine cal2 (n := 13) Try.func18 rfl rfl rfl rfl ?_
 intro S0 σ0 n0 hn0 H
 unfold M.laws_toHistory at h
 refine c_seq ?_
 refine rg ?_
 refine st_ex (ex_box (cs := [(Sl aa_0_0 a_0.1 ca_0_0), (Sl aa_0_1 a_0.2 ca_0_1)]) H hn0 rfl rfl) wn ?_
 rintro _ σ2 ⟨b1, rfl, H, -⟩
 refine st_ex (ex_alloc (cs := [(.slice none 0 0), (.slice none 0 0)]) H hn0 ti26 rfl) wn ?_
 rintro _ σ4 ⟨b3, rfl, H, -⟩
 refine w_end ?_
 refine q_then ?_
 refine c_seq ?_
 refine rg ?_
 refine st_ex (ex_alloc (cs := [(.slice none 0 0), (.slice none 0 0)]) H hn0 ti26 rfl) wn ?_
 rintro _ σ6 ⟨b5, rfl, H, -⟩
 refine w_end ?_
 refine q_then ?_
 refine c_seq ?_
 refine rg ?_
 refine st (v := (pt b1 0)) (rv_fieldAddr (off := 0) (ft := 38) Try.underlying40 rfl ti38 rfl rfl) ?_
 have hc7 := H.cell (u := (Sl aa_0_0 a_0.1 ca_0_0)) (o' := 0) 2 0 rfl rfl rfl
 refine st (v := (Sl aa_0_0 a_0.1 ca_0_0)) (rv_load1 Try.underlying38 rfl rfl hc7) ?_
 obtain ⟨r8, hx9, h'⟩ := bind_some h
 clear h
 have h := h'; clear h'
 have hc10 := c_laws_toEntryS (aa_0 := aa_0_0) (ca_0 := ca_0_0) hx9
 refine st_call (cx_call hc10 (ent_f hc10.fn rfl) hn0 (show Hp S0 σ0 _ ([Ch.ro 0 (Sl aa_0_0 a_0.1 ca_0_0) a_0.1] ++ [Ch.bx n0 b5 0 [(.slice none 0 0), (.slice none 0 0)] [] [], Ch.bx n0 b3 0 [(.slice none 0 0), (.slice none 0 0)] [] [], Ch.bx n0 b1 0 [(Sl aa_0_0 a_0.1 ca_0_0), (Sl aa_0_1 a_0.2 ca_0_1)] [] [], Ch.ro 0 (Sl aa_0_0 a_0.1 ca_0_0) a_0.1, Ch.ro 0 (Sl aa_0_1 a_0.2 ca_0_1) a_0.2]) from (H.sel' [3, 0, 1, 2, 3, 4] rfl rfl))) wn ?_
 rintro _ σ14 ⟨_, ⟨a11, c12, rfl, rfl, ht13⟩, H, -⟩
 replace H : Hp S0 σ0 σ14 [Ch.own n0 n0 (Sl a11 r8 c12) r8, Ch.bx n0 b5 0 [(.slice none 0 0), (.slice none 0 0)] [] [], Ch.bx n0 b3 0 [(.slice none 0 0), (.slice none 0 0)] [] [], Ch.bx n0 b1 0 [(Sl aa_0_0 a_0.1 ca_0_0), (Sl aa_0_1 a_0.2 ca_0_1)] [] [], Ch.ro 0 (Sl aa_0_0 a_0.1 ca_0_0) a_0.1, Ch.ro 0 (Sl aa_0_1 a_0.2 ca_0_1) a_0.2] := H
 refine st (v := (pt b5 0)) (rv_fieldAddr (off := 0) (ft := 23) Try.underlying26 rfl ti23 rfl rfl) ?_
 refine st_exS (ex_store_box (k := 0) (cs := [(.slice none 0 0), (.slice none 0 0)]) (vs := [(Sl a11 r8 c12)]) (cs' := [(Sl a11 r8 c12), (.slice none 0 0)]) H (i := 1) rfl ti23 rfl rfl rfl rfl rfl (Nat.le_of_ble_eq_true rfl) (by simp [plain]) rfl) wn ?_
 rintro σ15 ⟨H, -⟩
 refine w_end ?_
 refine q_then ?_
 refine c_seq ?_
 refine rg ?_
 refine st (v := (pt b1 1)) (rv_fieldAddr (off := 1) (ft := 24) Try.underlying40 rfl ti24 rfl rfl) ?_
 have hc16 := H.cell (u := (Sl aa_0_1 a_0.2 ca_0_1)) (o' := 1) 3 1 rfl rfl rfl
 refine st (v := (Sl aa_0_1 a_0.2 ca_0_1)) (rv_load1 Try.underlying24 rfl rfl hc16) ?_
 obtain ⟨r17, hx18, h'⟩ := bind_some h
 clear h
 have h := h'; clear h'
 have hc19 := c_laws_toIntS (aa_0 := aa_0_1) (ca_0 := ca_0_1) hx18
 refine st_call (cx_call hc19 (ent_f hc19.fn rfl) hn0 (show Hp S0 σ0 _ ([Ch.ro 0 (Sl aa_0_1 a_0.2 ca_0_1) a_0.2] ++ [Ch.bx n0 b5 0 [(Sl a11 r8 c12), (.slice none 0 0)] [] [], Ch.own n0 n0 (Sl a11 r8 c12) r8, Ch.bx n0 b3 0 [(.slice none 0 0), (.slice none 0 0)] [] [], Ch.bx n0 b1 0 [(Sl aa_0_0 a_0.1 ca_0_0), (Sl aa_0_1 a_0.2 ca_0_1)] [] [], Ch.ro 0 (Sl aa_0_0 a_0.1 ca_0_0) a_0.1, Ch.ro 0 (Sl aa_0_1 a_0.2 ca_0_1) a_0.2]) from (H.sel' [5, 0, 1, 2, 3, 4, 5] rfl rfl))) wn ?_
 rintro _ σ23 ⟨_, ⟨a20, c21, rfl, rfl, ht22⟩, H, -⟩
 replace H : Hp S0 σ0 σ23 [Ch.own n0 n0 (Sl a20 r17 c21) r17, Ch.bx n0 b5 0 [(Sl a11 r8 c12), (.slice none 0 0)] [] [], Ch.own n0 n0 (Sl a11 r8 c12) r8, Ch.bx n0 b3 0 [(.slice none 0 0), (.slice none 0 0)] [] [], Ch.bx n0 b1 0 [(Sl aa_0_0 a_0.1 ca_0_0), (Sl aa_0_1 a_0.2 ca_0_1)] [] [], Ch.ro 0 (Sl aa_0_0 a_0.1 ca_0_0) a_0.1, Ch.ro 0 (Sl aa_0_1 a_0.2 ca_0_1) a_0.2] := H
 refine st (v := (pt b5 1)) (rv_fieldAddr (off := 1) (ft := 24) Try.underlying26 rfl ti24 rfl rfl) ?_
 refine st_exS (ex_store_box (k := 1) (cs := [(Sl a11 r8 c12), (.slice none 0 0)]) (vs := [(Sl a20 r17 c21)]) (cs' := [(Sl a11 r8 c12), (Sl a20 r17 c21)]) H (i := 1) rfl ti24 rfl rfl rfl rfl rfl (Nat.le_of_ble_eq_true rfl) (by simp [plain]) rfl) wn ?_
 rintro σ24 ⟨H, -⟩
 refine w_end ?_
 refine q_then ?_
 refine c_seq ?_
 refine rg ?_
 have hc25 := H.cells 0 rfl
 refine st (v := (.agg #[(Sl a11 r8 c12), (Sl a20 r17 c21)])) (rv_load (cs := [(Sl a11 r8 c12), (Sl a20 r17 c21)]) Try.underlying26 rfl ti26 rfl rfl hc25) ?_
 refine st_exS (ex_store_box (k := 0) (cs := [(.slice none 0 0), (.slice none 0 0)]) (vs := [(Sl a11 r8 c12), (Sl a20 r17 c21)]) (cs' := [(Sl a11 r8 c12), (Sl a20 r17 c21)]) H (i := 3) rfl ti26 rfl rfl rfl rfl rfl (Nat.le_of_ble_eq_true rfl) (by simp [plain]) rfl) wn ?_
 rintro σ26 ⟨H, -⟩
 refine w_end ?_
 refine q_then ?_
 refine c_ret ?_
 obtain rfl := Option.some.inj h
 exact fin_ret (v := (.agg #[(Sl a11 r8 c12), (Sl a20 r17 c21)])) (results_ok Try.results18 (res_cell rfl (run_cellRes (cs := [(Sl a11 r8 c12), (Sl a20 r17 c21)]) Try.underlying26 rfl ti26 rfl (H.cells 0 rfl)) res_nil) rfl) ⟨a11, c12, a20, c21, rfl, rfl, ht13, ht22⟩ (H.sel' [3, 2] rfl rfl)

theorem c_laws_eqIntS {a_0 : List Int} {b_1 : List Int} {aa_0 : Option Addr} {ca_0 : Nat} {ab_1 : Option Addr} {cb_1 : Nat} {r : Bool} (h : M.laws_eqIntS a_0 b_1 = some r) :
    Cal2 Try.prog 34 [(Sl aa_0 a_0 ca_0), (Sl ab_1 b_1 cb_1)] [Ch.ro 0 (Sl aa_0 a_0 ca_0) a_0, Ch.ro 0 (Sl ab_1 b_1 cb_1) b_1] (fun n0 v L => v = (B r) ∧ L = []) := by
 refine cal2 (n := 26) Try.func34 rfl rfl rfl rfl ?_
 intro S0 σ0 n0 hn0 H
 unfold M.laws_eqIntS at h
 refine c_seq ?_
 refine rg ?_
 refine st (v := (B false)) (rv_assign rfl) ?_
 refine w_end ?_
 refine q_then ?_
 refine c_seq ?_
 refine c_seq ?_
 refine rg ?_
 refine st (v := (Sl aa_0 a_0 ca_0)) (rv_move rfl) ?_
 refine st (v := (I (a_0.length : Int))) (rv_len Try.underlying24 rfl) ?_
 refine st (v := (Sl ab_1 b_1 cb_1)) (rv_move rfl) ?_
 refine st (v := (I (b_1.length : Int))) (rv_len Try.underlying24 rfl) ?_
 refine st (v := (B ((a_0.length : Int) != (b_1.length : Int)))) (rv_neq (a := (a_0.length : Int)) (b := (b_1.length : Int)) rfl rfl) ?_
 refine w_end ?_
 refine q_then ?_
 refine cd_cond ((a_0.length : Int) != (b_1.length : Int)) rfl (fun hb1 => ?_) (fun hb1 => ?_)
 ·replace h := bif_t hb1 h
  refine c_seq ?_
  refine rg ?_
  refine st (v := (B false)) (rv_assign rfl) ?_
  refine w_end ?_
  refine q_then ?_
  refine c_ret ?_
  refine q_then_r ?_
  obtain rfl := Option.some.inj h
  exact fin_ret (v := (B false)) (results_ok Try.results34 (res_tmp (v := (B false)) rfl res_nil) rfl) ⟨rfl, rfl⟩ (H.sel' [] rfl rfl)
 ·replace h := bif_f hb1 h
  refine c_skip ?_
  refine q_then ?_
  refine c_seq ?_
  refine c_seq ?_
  refine rg ?_
  refine st (v := (I 0)) (rv_assign rfl) ?_
  refine w_end ?_
  refine q_then ?_
  obtain ⟨o2, hj, h'⟩ := bind_some h
  clear h
  refine c_cut (fun e a w => (∃ t, o2 = (.inl t) ∧ e = .normal ∧ ∃ (ρ : Nat → Value) (σ : St), a = fr 26 (updL ρ []) ∧ w = σ.w ∧ Hp S0 σ0 σ []) ∨ (∃ t, o2 = (.inr t) ∧ e = .ret ∧ ∃ (ρ : Nat → Value) (σ : St), a = fr 26 (updL ρ [(4, (B t))]) ∧ w = σ.w ∧ Hp S0 σ0 σ [])) ?_ ?_
  ·clear h'
   rename _ = some o2 => h
   refine c_blk ?_
   refine wp_loopM _ h (fun s3 a w => ∃ (ρ : Nat → Value) (σ : St), a = fr 26 (updL ρ [(0, (Sl aa_0 a_0 ca_0)), (1, (Sl ab_1 b_1 cb_1)), (5, (I s3))]) ∧ w = σ.w ∧ Hp S0 σ0 σ [Ch.ro 0 (Sl aa_0 a_0 ca_0) a_0, Ch.ro 0 (Sl ab_1 b_1 cb_1) b_1]) ⟨_, σ0, fr_join ⟨rfl, rfl, rfl, trivial⟩, rfl, H.sel' [0, 1] rfl rfl⟩ ?_
   clear h H
   rintro s3 a w o ⟨ρ, σ4, rfl, rfl, H⟩ h hres
   refine c_seq ?_
   refine c_seq ?_
   refine rg ?_
   refine st (v := (I s3)) (rv_move rfl) ?_
   refine st (v := (Sl aa_0 a_0 ca_0)) (rv_move rfl) ?_
   refine st (v := (I (a_0.length : Int))) (rv_len Try.underlying24 rfl) ?_
   refine st (v := (B (decide (s3 < (a_0.length : Int))))) (rv_lss (a := s3) (b := (a_0.length : Int)) rfl rfl) ?_
   refine w_end ?_
   refine q_then ?_
   refine cd_cond (decide (s3 < (a_0.length : Int))) rfl (fun hb5 => ?_) (fun hb5 => ?_)
   ·replace h := bif_t hb5 h
    refine c_skip ?_
    refine q_then ?_
    refine c_seq ?_
    refine c_blk ?_
    refine c_seq ?_
    refine rgP (σ := σ4) 8 (by kernel_rfl) (by kernel_rfl) (by kernel_rfl) ?_
    refine sq (v := (Sl aa_0 a_0 ca_0)) (rv_move rfl) ?_
    refine sq (v := (I s3)) (rv_move rfl) ?_
    obtain ⟨x6, hx7, h'⟩ := bind_some h
    clear h
    have h := h'; clear h'
    obtain ⟨b9, o10, hi8, -⟩ := (H.ro 0 rfl).ix hx7
    refine sq (v := (pt b9 o10)) (rv_ix Try.underlying24 ti3 rfl rfl hi8) ?_
    have hc11 := ((H.ro 0 rfl).at hx7 hi8).int
    refine sq (v := (I x6)) (rv_load1 Try.underlying3 rfl rfl hc11) ?_
    refine sq (v := (Sl ab_1 b_1 cb_1)) (rv_move rfl) ?_
    refine sq (v := (I s3)) (rv_move rfl) ?_
    obtain ⟨x12, hx13, h'⟩ := bind_some h
    clear h
    have h := h'; clear h'
    obtain ⟨b15, o16, hi14, -⟩ := (H.ro 1 rfl).ix hx13
    refine sq (v := (pt b15 o16)) (rv_ix Try.underlying24 ti3 rfl rfl hi14) ?_
    have hc17 := ((H.ro 1 rfl).at hx13 hi14).int
    refine sq (v := (I x12)) (rv_load1 Try.underlying3 rfl rfl hc17) ?_
    refine sq_end ?_
    intro σ18 hm19
    replace H := H.grow (hm19.mono fun _ h => h); clear hm19
    refine st (v := (B (x6 != x12))) (rv_neq (a := x6) (b := x12) rfl rfl) ?_
    refine w_end ?_
    refine q_then ?_
    refine cd_cond (x6 != x12) rfl (fun hb20 => ?_) (fun hb20 => ?_)
    ·replace h := bif_t hb20 h
     refine c_seq ?_
     refine rg ?_
     refine st (v := (B false)) (rv_assign rfl) ?_
     refine w_end ?_
     refine q_then ?_
     refine c_ret ?_
     refine q_blk_r ?_
     refine q_then_r ?_
     refine q_then_r ?_
     refine q_blk_r ?_
     obtain rfl := Option.some.inj h
     obtain rfl := hres _ rfl
     exact .inr (⟨_, rfl, rfl, _, σ18, fr_join ⟨rfl, trivial⟩, rfl, H.sel' [] rfl rfl⟩)
    ·replace h := bif_f hb20 h
     refine c_skip ?_
     refine q_blk ?_
     refine q_then ?_
     refine rg ?_
     refine st (v := (I s3)) (rv_move rfl) ?_
     refine st (v := (I (w64 (s3 + 1)))) (rv_add (a := s3) (b := 1) rfl rfl) ?_
     refine st (v := (I (w64 (s3 + 1)))) (rv_assign rfl) ?_
     refine w_end ?_
     refine q_then ?_
     obtain rfl := Option.some.inj h
     exact ⟨_, rfl, _, σ18, fr_join ⟨rfl, rfl, rfl, trivial⟩, rfl, H.sel' [0, 1] rfl rfl⟩
   ·replace h := bif_f hb5 h
    refine c_exit ?_
    refine q_then_x ?_
    refine q_then_x ?_
    refine q_blk_hit ?_
    obtain rfl := Option.some.inj h
    obtain rfl := hres _ rfl
    exact .inl ⟨_, rfl, rfl, _, σ4, fr_join trivial, rfl, H.sel' [] rfl rfl⟩
  ·clear hj
   have h := h'
   clear h' H
   rintro e a w (⟨t21, rfl, rfl, ρ, σ22, rfl, rfl, H⟩ | ⟨t23, rfl, rfl, ρ, σ24, rfl, rfl, H⟩)
   ·replace h := selim_l h
    refine q_then ?_
    refine c_seq ?_
    refine rg ?_
    refine st (v := (B true)) (rv_assign rfl) ?_
    refine w_end ?_
    refine q_then ?_
    refine c_ret ?_
    obtain rfl := Option.some.inj h
    exact fin_ret (v := (B true)) (results_ok Try.results34 (res_tmp (v := (B true)) rfl res_nil) rfl) ⟨rfl, rfl⟩ (H.sel' [] rfl rfl)
   ·replace h := selim_r h
    refine q_then_r ?_
    obtain rfl := Option.some.inj h
    exact fin_ret (v := (B t23)) (results_ok Try.results34 (res_tmp (v := (B t23)) rfl res_nil) rfl) ⟨rfl, rfl⟩ (H.sel' [] rfl rfl)

theorem c_laws_eqItem {a_0 : Int × (List Int) × Int} {b_1 : Int × (List Int) × Int} {aa_0_1 : Option Addr} {ca_0_1 : Nat} {ab_1_1 : Option Addr} {cb_1_1 : Nat} {r : Bool} (h : M.laws_eqItem a_0 b_1 = some r) :
    Cal2 Try.prog 58 [(.agg #[(I a_0.1), (Sl aa_0_1 a_0.2.1 ca_0_1), (I a_0.2.2)]), (.agg #[(I b_1.1), (Sl ab_1_1 b_1.2.1 cb_1_1), (I b_1.2.2)])] [Ch.ro 0 (Sl aa_0_1 a_0.2.1 ca_0_1) a_0.2.1, Ch.ro 0 (Sl ab_1_1 b_1.2.1 cb_1_1) b_1.2.1] (fun n0 v L => v = (B r) ∧ L = []) := by
 refine cal2 (n := 21) Try.func58 rfl rfl rfl rfl ?_
 intro S0 σ0 n0 hn0 H
 unfold M.laws_eqItem at h
 refine c_seq ?_
 refine rg ?_
 refine st_ex (ex_box (cs := [(I a_0.1), (Sl aa_0_1 a_0.2.1 ca_0_1), (I a_0.2.2)]) H hn0 rfl rfl) wn ?_
 rintro _ σ2 ⟨b1, rfl, H, -⟩
 refine st_ex (ex_box (cs := [(I b_1.1), (Sl ab_1_1 b_1.2.1 cb_1_1), (I b_1.2.2)]) H hn0 rfl rfl) wn ?_
 rintro _ σ4 ⟨b3, rfl, H, -⟩
 refine st (v := (B false)) (rv_assign rfl) ?_
 refine w_end ?_
 refine q_then ?_
 refine c_seq ?_
 refine c_seq ?_
 refine rg ?_
 refine st (v := (pt b1 0)) (rv_fieldAddr (off := 0) (ft := 3) Try.underlying36 rfl ti3 rfl rfl) ?_
 have hc5 := H.cell (u := (I a_0.1)) (o' := 0) 1 0 rfl rfl rfl
 refine st (v := (I a_0.1)) (rv_load1 Try.underlying3 rfl rfl hc5) ?_
 refine st (v := (pt b3 0)) (rv_fieldAddr (off := 0) (ft := 3) Try.underlying36 rfl ti3 rfl rfl) ?_
 have hc6 := H.cell (u := (I b_1.1)) (o' := 0) 0 0 rfl rfl rfl
 refine st (v := (I b_1.1)) (rv_load1 Try.underlying3 rfl rfl hc6) ?_
 refine st (v := (B (a_0.1 != b_1.1))) (rv_neq (a := a_0.1) (b := b_1.1) rfl rfl) ?_
 refine w_end ?_
 refine q_then ?_
 refine cd_cond (a_0.1 != b_1.1) rfl (fun hb7 => ?_) (fun hb7 => ?_)
 ·replace h := bif_t hb7 h
  refine c_seq ?_
  refine rg ?_
  refine st (v := (B false)) (rv_assign rfl) ?_
  refine w_end ?_
  refine q_then ?_
  refine c_ret ?_
  refine q_then_r ?_
  obtain rfl := Option.some.inj h
  exact fin_ret (v := (B false)) (results_ok Try.results58 (res_tmp (v := (B false)) rfl res_nil) rfl) ⟨rfl, rfl⟩ (H.sel' [] rfl rfl)
 ·replace h := bif_f hb7 h
  refine c_skip ?_
  refine q_then ?_
  refine c_seq ?_
  refine c_seq ?_
  refine rg ?_
  refine st (v := (pt b1 1)) (rv_fieldAddr (off := 1) (ft := 24) Try.underlying36 rfl ti24 rfl rfl) ?_
  have hc8 := H.cell (u := (Sl aa_0_1 a_0.2.1 ca_0_1)) (o' := 1) 1 1 rfl rfl rfl
  refine st (v := (Sl aa_0_1 a_0.2.1 ca_0_1)) (rv_load1 Try.underlying24 rfl rfl hc8) ?_
  refine st (v := (pt b3 1)) (rv_fieldAddr (off := 1) (ft := 24) Try.underlying36 rfl ti24 rfl rfl) ?_
  have hc9 := H.cell (u := (Sl ab_1_1 b_1.2.1 cb_1_1)) (o' := 1) 0 1 rfl rfl rfl
  refine st (v := (Sl ab_1_1 b_1.2.1 cb_1_1)) (rv_load1 Try.underlying24 rfl rfl hc9) ?_
  obtain ⟨r10, hx11, h'⟩ := bind_some h
  clear h
  have h := h'; clear h'
  have hc12 := c_laws_eqIntS (aa_0 := aa_0_1) (ca_0 := ca_0_1) (ab_1 := ab_1_1) (cb_1 := cb_1_1) hx11
  refine st_call (cx_call hc12 (ent_f hc12.fn rfl) hn0 (show Hp S0 σ0 _ ([Ch.ro 0 (Sl aa_0_1 a_0.2.1 ca_0_1) a_0.2.1, Ch.ro 0 (Sl ab_1_1 b_1.2.1 cb_1_1) b_1.2.1] ++ [Ch.bx n0 b3 0 [(I b_1.1), (Sl ab_1_1 b_1.2.1 cb_1_1), (I b_1.2.2)] [] [], Ch.bx n0 b1 0 [(I a_0.1), (Sl aa_0_1 a_0.2.1 ca_0_1), (I a_0.2.2)] [] [], Ch.ro 0 (Sl aa_0_1 a_0.2.1 ca_0_1) a_0.2.1, Ch.ro 0 (Sl ab_1_1 b_1.2.1 cb_1_1) b_1.2.1]) from (H.sel' [2, 3, 0, 1, 2, 3] rfl rfl))) wn ?_
  rintro _ σ13 ⟨_, ⟨rfl, rfl⟩, H, -⟩
  replace H : Hp S0 σ0 σ13 [Ch.bx n0 b3 0 [(I b_1.1), (Sl ab_1_1 b_1.2.1 cb_1_1), (I b_1.2.2)] [] [], Ch.bx n0 b1 0 [(I a_0.1), (Sl aa_0_1 a_0.2.1 ca_0_1), (I a_0.2.2)] [] [], Ch.ro 0 (Sl aa_0_1 a_0.2.1 ca_0_1) a_0.2.1, Ch.ro 0 (Sl ab_1_1 b_1.2.1 cb_1_1) b_1.2.1] := H
  refine st (v := (B (!r10))) (rv_not rfl) ?_
  refine w_end ?_
  refine q_then ?_
  refine cd_cond (!r10) rfl (fun hb14 => ?_) (fun hb14 => ?_)
  ·replace h := bif_t hb14 h
   refine c_seq ?_
   refine rg ?_
   refine st (v := (B false)) (rv_assign rfl) ?_
   refine w_end ?_
   refine q_then ?_
   refine c_ret ?_
   refine q_then_r ?_
   obtain rfl := Option.some.inj h
   exact fin_ret (v := (B false)) (results_ok Try.results58 (res_tmp (v := (B false)) rfl res_nil) rfl) ⟨rfl, rfl⟩ (H.sel' [] rfl rfl)
  ·replace h := bif_f hb14 h
   refine c_skip ?_
   refine q_then ?_
   refine c_seq ?_
   refine c_seq ?_
   refine rg ?_
   refine st (v := (pt b1 2)) (rv_fieldAddr (off := 2) (ft := 3) Try.underlying36 rfl ti3 rfl rfl) ?_
   have hc15 := H.cell (u := (I a_0.2.2)) (o' := 2) 1 2 rfl rfl rfl
   refine st (v := (I a_0.2.2)) (rv_load1 Try.underlying3 rfl rfl hc15) ?_
   refine st (v := (pt b3 2)) (rv_fieldAddr (off := 2) (ft := 3) Try.underlying36 rfl ti3 rfl rfl) ?_
   have hc16 := H.cell (u := (I b_1.2.2)) (o' := 2) 0 2 rfl rfl rfl
   refine st (v := (I b_1.2.2)) (rv_load1 Try.underlying3 rfl rfl hc16) ?_
   refine st (v := (B (a_0.2.2 != b_1.2.2))) (rv_neq (a := a_0.2.2) (b := b_1.2.2) rfl rfl) ?_
   refine w_end ?_
   refine q_then ?_
   refine cd_cond (a_0.2.2 != b_1.2.2) rfl (fun hb17 => ?_) (fun hb17 => ?_)
   ·replace h := bif_t hb17 h
    refine c_seq ?_
    refine rg ?_
    refine st (v := (B false)) (rv_assign rfl) ?_
    refine w_end ?_
    refine q_then ?_
    refine c_ret ?_
    refine q_then_r ?_
    obtain rfl := Option.some.inj h
    exact fin_ret (v := (B false)) (results_ok Try.results58 (res_tmp (v := (B false)) rfl res_nil) rfl) ⟨rfl, rfl⟩ (H.sel' [] rfl rfl)
   ·replace h := bif_f hb17 h
    refine c_skip ?_
    refine q_then ?_
    refine c_seq ?_
    refine rg ?_
    refine st (v := (B true)) (rv_assign rfl) ?_
    refine w_end ?_
    refine q_then ?_
    refine c_ret ?_
    obtain rfl := Option.some.inj h
    exact fin_ret (v := (B true)) (results_ok Try.results58 (res_tmp (v := (B true)) rfl res_nil) rfl) ⟨rfl, rfl⟩ (H.sel' [] rfl rfl)

end Go.Vs
