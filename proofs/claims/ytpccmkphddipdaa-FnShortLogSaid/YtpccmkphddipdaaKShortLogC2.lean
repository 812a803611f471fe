/- The functions compute what their models say. -/
import Derived.Test.YtpccmkphddipdaaKShortLogC1
set_option linter.unusedVariables false
set_option linter.unusedSimpArgs false
set_option maxRecDepth 20000
namespace Go.Vs
open Go Go.Proofs
attribute [local irreducible] Code.wp Code.wpIn wpList wpListIn wpQuiet Calls CallsIn

theorem c_spec_anyLog {r_0 : (List UInt8) × Int} {ar_0_0 : Option Addr} {cr_0_0 : Nat} {lor_0 br_0 or_0 : Nat} {prer_0 sufr_0 : List Value} {r : (List (Int × (Int × (List Int) × Int))) × ((List UInt8) × Int)} (h : M.spec_anyLog r_0 = some r) :
    Cal2 Try.prog 40 [(pt br_0 or_0)] [Ch.bx lor_0 br_0 or_0 [(Sl ar_0_0 r_0.1 cr_0_0), (I r_0.2)] prer_0 sufr_0, Ch.ro 0 (Sl ar_0_0 r_0.1 cr_0_0) r_0.1] (fun n0 v L => ∃ (az1 : Option Addr), ∃ (cz2 : Nat), ∃ (az3 : Option Addr), ∃ (cz4 : Nat), v = (Sl az1 r.1 cz2) ∧ L = [Ch.own n0 n0 (Sl az1 r.1 cz2) r.1, Ch.bx lor_0 br_0 or_0 [(Sl az3 r.2.1 cz4), (I r.2.2)] prer_0 sufr_0, Ch.ro 0 (Sl az3 r.2.1 cz4) r.2.1]) := by
 refine cal2 (n := 27) Try.func40 rfl rfl rfl rfl ?_
 intro S0 σ0 n0 hn0 H
 unfold M.spec_anyLog at h
 refine c_seq ?_
 refine rg ?_
 refine st (v := (.slice none 0 0)) (rv_assign rfl) ?_
 refine w_end ?_
 refine q_then ?_
 refine c_seq ?_
 refine rg ?_
 refine st_ex (ex_buildSlice (el := n0) (xs := ([] : List (Int × (Int × (List Int) × Int)))) (ps := []) (cs := []) H hn0 Try.underlying23 ti38 rfl rfl (by kernel_rfl) (.nil) rfl) wn ?_
 rintro _ σ2 ⟨b1, rfl, H, -⟩
 refine st (v := (Sl (some ⟨b1, 0, none⟩) ([] : List (Int × (Int × (List Int) × Int))) 0)) (rv_assign rfl) ?_
 refine w_end ?_
 refine q_then ?_
 refine c_seq ?_
 refine c_seq ?_
 refine rg ?_
 refine st (v := (pt br_0 or_0)) (rv_move rfl) ?_
 refine st_ex (ex_buildSlice (el := n0) (xs := ([4, 6, 8, 3, 1, 0, 32, 33] : List Int)) (ps := [(0, (I 4)), (1, (I 6)), (2, (I 8)), (3, (I 3)), (4, (I 1)), (5, (I 0)), (6, (I 32)), (7, (I 33))]) (cs := [(I 4), (I 6), (I 8), (I 3), (I 1), (I 0), (I 32), (I 33)]) H hn0 Try.underlying34 ti3 rfl rfl (by kernel_rfl) (.cons (c := [(I 4)]) rfl (.cons (c := [(I 6)]) rfl (.cons (c := [(I 8)]) rfl (.cons (c := [(I 3)]) rfl (.cons (c := [(I 1)]) rfl (.cons (c := [(I 0)]) rfl (.cons (c := [(I 32)]) rfl (.cons (c := [(I 33)]) rfl (.nil))))))))) rfl) wn ?_
 rintro _ σ4 ⟨b3, rfl, H, -⟩
 obtain ⟨σ5, hw6, H, -⟩ := H.pub 0 rfl (Nat.le_refl _)
 rw [← hw6]; clear hw6
 replace H := H.roLow 0 0 rfl (Nat.zero_le _)
 obtain ⟨r7, hx8, h'⟩ := bind_some h
 clear h
 have h := h'; clear h'
 have hc9 := c_spec_reader_one (lor_0 := lor_0) (br_0 := br_0) (or_0 := or_0) (prer_0 := prer_0) (sufr_0 := sufr_0) (ar_0_0 := ar_0_0) (cr_0_0 := cr_0_0) (alist_1 := (some ⟨b3, 0, none⟩)) (clist_1 := 8) hx8
 refine st_call (cx_call hc9 (ent_f hc9.fn rfl) hn0 (show Hp S0 σ0 _ ([Ch.bx lor_0 br_0 or_0 [(Sl ar_0_0 r_0.1 cr_0_0), (I r_0.2)] prer_0 sufr_0, Ch.ro 0 (Sl ar_0_0 r_0.1 cr_0_0) r_0.1, Ch.ro 0 (Sl (some ⟨b3, 0, none⟩) ([4, 6, 8, 3, 1, 0, 32, 33] : List Int) 8) ([4, 6, 8, 3, 1, 0, 32, 33] : List Int)] ++ [Ch.ro 0 (Sl (some ⟨b3, 0, none⟩) ([4, 6, 8, 3, 1, 0, 32, 33] : List Int) 8) ([4, 6, 8, 3, 1, 0, 32, 33] : List Int), Ch.ro n0 (Sl (some ⟨b3, 0, none⟩) ([4, 6, 8, 3, 1, 0, 32, 33] : List Int) 8) ([4, 6, 8, 3, 1, 0, 32, 33] : List Int), Ch.own n0 n0 (Sl (some ⟨b1, 0, none⟩) ([] : List (Int × (Int × (List Int) × Int))) 0) ([] : List (Int × (Int × (List Int) × Int))), Ch.ro 0 (Sl ar_0_0 r_0.1 cr_0_0) r_0.1]) from (H.sel' [3, 4, 0, 0, 1, 2, 4] rfl rfl))) wn ?_
 rintro _ σ12 ⟨_, ⟨a10, c11, rfl, rfl⟩, H, -⟩
 replace H : Hp S0 σ0 σ12 [Ch.bx lor_0 br_0 or_0 [(Sl a10 r7.2.1 c11), (I r7.2.2)] prer_0 sufr_0, Ch.ro 0 (Sl a10 r7.2.1 c11) r7.2.1, Ch.ro 0 (Sl (some ⟨b3, 0, none⟩) ([4, 6, 8, 3, 1, 0, 32, 33] : List Int) 8) ([4, 6, 8, 3, 1, 0, 32, 33] : List Int), Ch.ro n0 (Sl (some ⟨b3, 0, none⟩) ([4, 6, 8, 3, 1, 0, 32, 33] : List Int) 8) ([4, 6, 8, 3, 1, 0, 32, 33] : List Int), Ch.own n0 n0 (Sl (some ⟨b1, 0, none⟩) ([] : List (Int × (Int × (List Int) × Int))) 0) ([] : List (Int × (Int × (List Int) × Int))), Ch.ro 0 (Sl ar_0_0 r_0.1 cr_0_0) r_0.1] := H
 refine st (v := (I r7.1)) (rv_assign rfl) ?_
 refine w_end ?_
 refine q_then ?_
 obtain ⟨o13, hj, h'⟩ := bind_some h
 clear h
 refine c_cut (fun e a w => e = .normal ∧ ∃ (ρ : Nat → Value) (σ : St) (aj1 : Option Addr) (cj2 : Nat) (aj3 : Option Addr) (cj4 : Nat), a = fr 27 (updL ρ [(0, (pt br_0 or_0)), (3, (Sl aj3 o13.2 cj4))]) ∧ w = σ.w ∧ Hp S0 σ0 σ [Ch.bx lor_0 br_0 or_0 [(Sl aj1 o13.1.1 cj2), (I o13.1.2)] prer_0 sufr_0, Ch.ro 0 (Sl aj1 o13.1.1 cj2) o13.1.1, Ch.own n0 n0 (Sl aj3 o13.2 cj4) o13.2]) ?_ ?_
 ·clear h'
  rename _ = some o13 => h
  refine c_blk ?_
  refine wp_loopM _ h (fun s14 a w => ∃ (ρ : Nat → Value) (σ : St) (aj1 : Option Addr) (cj2 : Nat) (aj3 : Option Addr) (cj4 : Nat), a = fr 27 (updL ρ [(0, (pt br_0 or_0)), (3, (Sl aj3 s14.2.1 cj4)), (4, (I s14.2.2))]) ∧ w = σ.w ∧ Hp S0 σ0 σ [Ch.bx lor_0 br_0 or_0 [(Sl aj1 s14.1.1 cj2), (I s14.1.2)] prer_0 sufr_0, Ch.ro 0 (Sl aj1 s14.1.1 cj2) s14.1.1, Ch.own n0 n0 (Sl aj3 s14.2.1 cj4) s14.2.1]) ⟨_, σ12, a10, c11, (some ⟨b1, 0, none⟩), 0, fr_join ⟨rfl, rfl, rfl, trivial⟩, rfl, H.sel' [0, 1, 4] rfl rfl⟩ ?_
  clear h H
  rintro s14 a w o ⟨ρ, σ15, a16, c17, a18, c19, rfl, rfl, H⟩ h hres
  refine c_seq ?_
  refine c_seq ?_
  refine rg ?_
  refine st (v := (I s14.2.2)) (rv_move rfl) ?_
  refine st (v := (B (decide (0 < s14.2.2)))) (rv_gtr (a := s14.2.2) (b := 0) rfl rfl) ?_
  refine w_end ?_
  refine q_then ?_
  refine cd_cond (decide (0 < s14.2.2)) rfl (fun hb20 => ?_) (fun hb20 => ?_)
  ·replace h := bif_t hb20 h
   refine c_skip ?_
   refine q_then ?_
   refine c_seq ?_
   refine c_blk ?_
   refine rg ?_
   refine st (v := (Sl a18 s14.2.1 c19)) (rv_move rfl) ?_
   refine st (v := (pt br_0 or_0)) (rv_move rfl) ?_
   obtain ⟨r21, hx22, h'⟩ := bind_some h
   clear h
   have h := h'; clear h'
   have hc23 := c_spec_someEntry (lor_0 := lor_0) (br_0 := br_0) (or_0 := or_0) (prer_0 := prer_0) (sufr_0 := sufr_0) (ar_0_0 := a16) (cr_0_0 := c17) hx22
   refine st_call (cx_call hc23 (ent_f hc23.fn rfl) hn0 (show Hp S0 σ0 _ ([Ch.bx lor_0 br_0 or_0 [(Sl a16 s14.1.1 c17), (I s14.1.2)] prer_0 sufr_0, Ch.ro 0 (Sl a16 s14.1.1 c17) s14.1.1] ++ [Ch.ro 0 (Sl a16 s14.1.1 c17) s14.1.1, Ch.own n0 n0 (Sl a18 s14.2.1 c19) s14.2.1]) from (H.sel' [0, 1, 1, 2] rfl rfl))) wn ?_
   rintro _ σ28 ⟨_, ⟨a24, c25, a26, c27, rfl, rfl⟩, H, -⟩
   replace H : Hp S0 σ0 σ28 [Ch.own n0 n0 (Sl a24 r21.1.2.2.1 c25) r21.1.2.2.1, Ch.bx lor_0 br_0 or_0 [(Sl a26 r21.2.1 c27), (I r21.2.2)] prer_0 sufr_0, Ch.ro 0 (Sl a26 r21.2.1 c27) r21.2.1, Ch.ro 0 (Sl a16 s14.1.1 c17) s14.1.1, Ch.own n0 n0 (Sl a18 s14.2.1 c19) s14.2.1] := H
   obtain ⟨σ29, hw30, H, -⟩ := H.pub 0 rfl (Nat.le_refl _)
   rw [← hw30]; clear hw30
   refine st_ex (ex_buildSlice (el := n0) (xs := ([(r21.1.1, (r21.1.2.1, r21.1.2.2.1, r21.1.2.2.2))] : List (Int × (Int × (List Int) × Int)))) (ps := [(0, (.agg #[(I r21.1.1), (I r21.1.2.1), (Sl a24 r21.1.2.2.1 c25), (I r21.1.2.2.2)]))]) (cs := [(I r21.1.1), (I r21.1.2.1), (Sl a24 r21.1.2.2.1 c25), (I r21.1.2.2.2)]) H hn0 Try.underlying23 ti38 rfl rfl (by kernel_rfl) (.cons (c := [(I r21.1.1), (I r21.1.2.1), (Sl a24 r21.1.2.2.1 c25), (I r21.1.2.2.2)]) ⟨[(I r21.1.1)], [(I r21.1.2.1), (Sl a24 r21.1.2.2.1 c25), (I r21.1.2.2.2)], rfl, rfl, ⟨[(I r21.1.2.1)], [(Sl a24 r21.1.2.2.1 c25), (I r21.1.2.2.2)], rfl, rfl, ⟨[(Sl a24 r21.1.2.2.1 c25)], [(I r21.1.2.2.2)], rfl, ⟨_, rfl, (H.ro 0 rfl)⟩, rfl⟩⟩⟩ (.nil)) rfl) wn ?_
   rintro _ σ32 ⟨b31, rfl, H, -⟩
   obtain ⟨xs33, hx34, h'⟩ := bind_some h
   clear h
   have h := h'; clear h'
   refine st_ex (ex_append H (i := 5) rfl Try.underlying23 Try.underlying23 ti38 rfl rfl (by decide) (H.own 0 rfl).rd hx34 hn0 rfl rfl) wn ?_
   rintro _ σ37 ⟨a35, c36, rfl, H, -⟩
   refine st (v := (Sl a35 xs33 c36)) (rv_assign rfl) ?_
   refine w_end ?_
   refine q_blk ?_
   refine q_then ?_
   refine rg ?_
   refine st (v := (I s14.2.2)) (rv_move rfl) ?_
   refine st (v := (I (w64 (s14.2.2 - 1)))) (rv_sub (a := s14.2.2) (b := 1) rfl rfl) ?_
   refine st (v := (I (w64 (s14.2.2 - 1)))) (rv_assign rfl) ?_
   refine w_end ?_
   refine q_then ?_
   obtain rfl := Option.some.inj h
   exact ⟨_, rfl, _, σ37, a26, c27, a35, c36, fr_join ⟨rfl, rfl, rfl, trivial⟩, rfl, H.sel' [3, 4, 0] rfl rfl⟩
  ·replace h := bif_f hb20 h
   refine c_exit ?_
   refine q_then_x ?_
   refine q_then_x ?_
   refine q_blk_hit ?_
   obtain rfl := Option.some.inj h
   obtain rfl := hres _ rfl
   exact ⟨rfl, _, σ15, a16, c17, a18, c19, fr_join ⟨rfl, rfl, trivial⟩, rfl, H.sel' [0, 1, 2] rfl rfl⟩
 ·clear hj
  have h := h'
  clear h' H
  rintro e a w ⟨rfl, ρ, σ38, a39, c40, a41, c42, rfl, rfl, H⟩
  refine q_then ?_
  refine c_seq ?_
  refine c_seq ?_
  refine rg ?_
  refine st (v := (pt br_0 or_0)) (rv_move rfl) ?_
  obtain ⟨r43, hx44, h'⟩ := bind_some h
  clear h
  have h := h'; clear h'
  have hc45 := c_spec_reader_pick (lor_0 := lor_0) (br_0 := br_0) (or_0 := or_0) (prer_0 := prer_0) (sufr_0 := sufr_0) (ar_0_0 := a39) (cr_0_0 := c40) hx44
  refine st_call (cx_call hc45 (ent_f hc45.fn rfl) hn0 (show Hp S0 σ0 _ ([Ch.bx lor_0 br_0 or_0 [(Sl a39 o13.1.1 c40), (I o13.1.2)] prer_0 sufr_0, Ch.ro 0 (Sl a39 o13.1.1 c40) o13.1.1] ++ [Ch.ro 0 (Sl a39 o13.1.1 c40) o13.1.1, Ch.own n0 n0 (Sl a41 o13.2 c42) o13.2]) from (H.sel' [0, 1, 1, 2] rfl rfl))) wn ?_
  rintro _ σ48 ⟨_, ⟨a46, c47, rfl, rfl⟩, H, -⟩
  replace H : Hp S0 σ0 σ48 [Ch.bx lor_0 br_0 or_0 [(Sl a46 r43.2.1 c47), (I r43.2.2)] prer_0 sufr_0, Ch.ro 0 (Sl a46 r43.2.1 c47) r43.2.1, Ch.ro 0 (Sl a39 o13.1.1 c40) o13.1.1, Ch.own n0 n0 (Sl a41 o13.2 c42) o13.2] := H
  refine st (v := (B (r43.1 == 0))) (rv_eql (a := r43.1) (b := 0) rfl rfl) ?_
  refine w_end ?_
  refine q_then ?_
  obtain ⟨o49, hj, h'⟩ := bind_some h
  clear h
  refine c_cut (fun e a w => e = .normal ∧ ∃ (ρ : Nat → Value) (σ : St) (aj1 : Option Addr) (cj2 : Nat) (aj3 : Option Addr) (cj4 : Nat), a = fr 27 (updL ρ [(0, (pt br_0 or_0)), (3, (Sl aj3 o49.2 cj4))]) ∧ w = σ.w ∧ Hp S0 σ0 σ [Ch.bx lor_0 br_0 or_0 [(Sl aj1 o49.1.1 cj2), (I o49.1.2)] prer_0 sufr_0, Ch.ro 0 (Sl aj1 o49.1.1 cj2) o49.1.1, Ch.own n0 n0 (Sl aj3 o49.2 cj4) o49.2]) ?_ ?_
  ·clear h'
   rename _ = some o49 => h
   refine cd_cond (r43.1 == 0) rfl (fun hb50 => ?_) (fun hb50 => ?_)
   ·replace h := bif_t hb50 h
    refine rg ?_
    refine st (v := (Sl a41 o13.2 c42)) (rv_move rfl) ?_
    refine st (v := (pt br_0 or_0)) (rv_move rfl) ?_
    obtain ⟨r51, hx52, h'⟩ := bind_some h
    clear h
    have h := h'; clear h'
    have hc53 := c_spec_anyEntry (lor_0 := lor_0) (br_0 := br_0) (or_0 := or_0) (prer_0 := prer_0) (sufr_0 := sufr_0) (ar_0_0 := a46) (cr_0_0 := c47) hx52
    refine st_call (cx_call hc53 (ent_f hc53.fn rfl) hn0 (show Hp S0 σ0 _ ([Ch.bx lor_0 br_0 or_0 [(Sl a46 r43.2.1 c47), (I r43.2.2)] prer_0 sufr_0, Ch.ro 0 (Sl a46 r43.2.1 c47) r43.2.1] ++ [Ch.ro 0 (Sl a46 r43.2.1 c47) r43.2.1, Ch.ro 0 (Sl a39 o13.1.1 c40) o13.1.1, Ch.own n0 n0 (Sl a41 o13.2 c42) o13.2]) from (H.sel' [0, 1, 1, 2, 3] rfl rfl))) wn ?_
    rintro _ σ58 ⟨_, ⟨a54, c55, a56, c57, rfl, rfl⟩, H, -⟩
    replace H : Hp S0 σ0 σ58 [Ch.own n0 n0 (Sl a54 r51.1.2.2.1 c55) r51.1.2.2.1, Ch.bx lor_0 br_0 or_0 [(Sl a56 r51.2.1 c57), (I r51.2.2)] prer_0 sufr_0, Ch.ro 0 (Sl a56 r51.2.1 c57) r51.2.1, Ch.ro 0 (Sl a46 r43.2.1 c47) r43.2.1, Ch.ro 0 (Sl a39 o13.1.1 c40) o13.1.1, Ch.own n0 n0 (Sl a41 o13.2 c42) o13.2] := H
    obtain ⟨σ59, hw60, H, -⟩ := H.pub 0 rfl (Nat.le_refl _)
    rw [← hw60]; clear hw60
    refine st_ex (ex_buildSlice (el := n0) (xs := ([(r51.1.1, (r51.1.2.1, r51.1.2.2.1, r51.1.2.2.2))] : List (Int × (Int × (List Int) × Int)))) (ps := [(0, (.agg #[(I r51.1.1), (I r51.1.2.1), (Sl a54 r51.1.2.2.1 c55), (I r51.1.2.2.2)]))]) (cs := [(I r51.1.1), (I r51.1.2.1), (Sl a54 r51.1.2.2.1 c55), (I r51.1.2.2.2)]) H hn0 Try.underlying23 ti38 rfl rfl (by kernel_rfl) (.cons (c := [(I r51.1.1), (I r51.1.2.1), (Sl a54 r51.1.2.2.1 c55), (I r51.1.2.2.2)]) ⟨[(I r51.1.1)], [(I r51.1.2.1), (Sl a54 r51.1.2.2.1 c55), (I r51.1.2.2.2)], rfl, rfl, ⟨[(I r51.1.2.1)], [(Sl a54 r51.1.2.2.1 c55), (I r51.1.2.2.2)], rfl, rfl, ⟨[(Sl a54 r51.1.2.2.1 c55)], [(I r51.1.2.2.2)], rfl, ⟨_, rfl, (H.ro 0 rfl)⟩, rfl⟩⟩⟩ (.nil)) rfl) wn ?_
    rintro _ σ62 ⟨b61, rfl, H, -⟩
    obtain ⟨xs63, hx64, h'⟩ := bind_some h
    clear h
    have h := h'; clear h'
    refine st_ex (ex_append H (i := 6) rfl Try.underlying23 Try.underlying23 ti38 rfl rfl (by decide) (H.own 0 rfl).rd hx64 hn0 rfl rfl) wn ?_
    rintro _ σ67 ⟨a65, c66, rfl, H, -⟩
    refine st (v := (Sl a65 xs63 c66)) (rv_assign rfl) ?_
    refine w_end ?_
    obtain rfl := Option.some.inj h
    exact ⟨rfl, _, σ67, a56, c57, a65, c66, fr_join ⟨rfl, rfl, trivial⟩, rfl, H.sel' [3, 4, 0] rfl rfl⟩
   ·replace h := bif_f hb50 h
    refine c_skip ?_
    obtain rfl := Option.some.inj h
    exact ⟨rfl, _, σ48, a46, c47, a41, c42, fr_join ⟨rfl, rfl, trivial⟩, rfl, H.sel' [0, 1, 3] rfl rfl⟩
  ·clear hj
   have h := h'
   clear h' H
   rintro e a w ⟨rfl, ρ, σ68, a69, c70, a71, c72, rfl, rfl, H⟩
   refine q_then ?_
   refine c_seq ?_
   refine rg ?_
   refine st (v := (Sl a71 o49.2 c72)) (rv_move rfl) ?_
   refine st (v := (Sl a71 o49.2 c72)) (rv_assign rfl) ?_
   refine w_end ?_
   refine q_then ?_
   refine c_ret ?_
   obtain rfl := Option.some.inj h
   exact fin_ret (v := (Sl a71 o49.2 c72)) (results_ok Try.results40 (res_tmp (v := (Sl a71 o49.2 c72)) rfl res_nil) rfl) ⟨a71, c72, a69, c70, rfl, rfl⟩ (H.sel' [2, 0, 1] rfl rfl)

theorem c_spec_newReader {code_0 : List UInt8} {acode_0 : Option Addr} {ccode_0 : Nat} {r : ((List UInt8) × Int)} (h : M.spec_newReader code_0 = some r) :
    Cal2 Try.prog 41 [(Sl acode_0 code_0 ccode_0)] [Ch.ro 0 (Sl acode_0 code_0 ccode_0) code_0] (fun n0 v L => ∃ (bz1 : Nat), ∃ (az2 : Option Addr), ∃ (cz3 : Nat), v = (pt bz1 0) ∧ L = [Ch.bx n0 bz1 0 [(Sl az2 r.1 cz3), (I r.2)] [] [], Ch.ro 0 (Sl az2 r.1 cz3) r.1]) := by
 refine cal2 (n := 11) Try.func41 rfl rfl rfl rfl ?_
 intro S0 σ0 n0 hn0 H
 unfold M.spec_newReader at h
 refine c_seq ?_
 refine rg ?_
 refine st (v := (.pointer none)) (rv_assign rfl) ?_
 refine w_end ?_
 refine q_then ?_
 refine c_seq ?_
 refine c_seq ?_
 refine rg ?_
 refine st (v := (Sl acode_0 code_0 ccode_0)) (rv_move rfl) ?_
 refine st (v := (I (code_0.length : Int))) (rv_len Try.underlying22 rfl) ?_
 refine st (v := (B (decide (2000 < (code_0.length : Int))))) (rv_gtr (a := (code_0.length : Int)) (b := 2000) rfl rfl) ?_
 refine w_end ?_
 refine q_then ?_
 obtain ⟨o1, hj, h'⟩ := bind_some h
 clear h
 refine c_cut (fun e a w => e = .normal ∧ ∃ (ρ : Nat → Value) (σ : St) (aj1 : Option Addr) (cj2 : Nat), a = fr 11 (updL ρ [(0, (Sl aj1 o1 cj2))]) ∧ w = σ.w ∧ Hp S0 σ0 σ [Ch.ro 0 (Sl aj1 o1 cj2) o1]) ?_ ?_
 ·clear h'
  rename _ = some o1 => h
  refine cd_cond (decide (2000 < (code_0.length : Int))) rfl (fun hb2 => ?_) (fun hb2 => ?_)
  ·replace h := bif_t hb2 h
   refine rg ?_
   refine st (v := (Sl acode_0 code_0 ccode_0)) (rv_move rfl) ?_
   obtain ⟨xs3, hx4, h'⟩ := bind_some h
   clear h
   have h := h'; clear h'
   obtain ⟨a5, c6, hs7, hR8⟩ := (H.ro 0 rfl).slice hx4
   replace H := H.add (d := Ch.ro 0 (Sl a5 xs3 c6) xs3) hR8 (fun _ h => h)
   clear hR8
   refine st (v := (Sl a5 xs3 c6)) (rv_slice_h Try.underlying22 ti5 hs7 rfl rfl) ?_
   refine st (v := (Sl a5 xs3 c6)) (rv_assign rfl) ?_
   refine w_end ?_
   obtain rfl := Option.some.inj h
   exact ⟨rfl, _, σ0, a5, c6, fr_join ⟨rfl, trivial⟩, rfl, H.sel' [0] rfl rfl⟩
  ·replace h := bif_f hb2 h
   refine c_skip ?_
   obtain rfl := Option.some.inj h
   exact ⟨rfl, _, σ0, acode_0, ccode_0, fr_join ⟨rfl, trivial⟩, rfl, H.sel' [0] rfl rfl⟩
 ·clear hj
  have h := h'
  clear h' H
  rintro e a w ⟨rfl, ρ, σ9, a10, c11, rfl, rfl, H⟩
  refine q_then ?_
  refine c_seq ?_
  refine rg ?_
  refine st (v := (Sl a10 o1 c11)) (rv_move rfl) ?_
  refine st (v := (.agg #[(Sl a10 o1 c11), (I 0)])) (rv_build (ps := [(0, (Sl a10 o1 c11))]) Try.underlying91 ti91 (bp91 Try.underlying91) rfl (by kernel_rfl)) ?_
  refine st_ex (ex_box (cs := [(Sl a10 o1 c11), (I 0)]) H hn0 rfl rfl) wn ?_
  rintro _ σ13 ⟨b12, rfl, H, -⟩
  refine st (v := (pt b12 0)) (rv_assign rfl) ?_
  refine w_end ?_
  refine q_then ?_
  refine c_ret ?_
  obtain rfl := Option.some.inj h
  exact fin_ret (v := (pt b12 0)) (results_ok Try.results41 (res_tmp (v := (pt b12 0)) rfl res_nil) rfl) ⟨b12, a10, c11, rfl, rfl⟩ (H.sel' [0, 1] rfl rfl)

theorem c_spec_DrawShortLog {code_0 : List UInt8} {acode_0 : Option Addr} {ccode_0 : Nat} {r : (List (Int × (Int × (List Int) × Int)))} (h : M.spec_DrawShortLog code_0 = some r) :
    Cal2 Try.prog 25 [(Sl acode_0 code_0 ccode_0)] [Ch.ro 0 (Sl acode_0 code_0 ccode_0) code_0] (fun n0 v L => ∃ (az1 : Option Addr), ∃ (cz2 : Nat), v = (Sl az1 r cz2) ∧ L = [Ch.own n0 n0 (Sl az1 r cz2) r]) := by
 refine cal2 (n := 6) Try.func25 rfl rfl rfl rfl ?_
 intro S0 σ0 n0 hn0 H
 unfold M.spec_DrawShortLog at h
 refine c_seq ?_
 refine rg ?_
 refine st (v := (.slice none 0 0)) (rv_assign rfl) ?_
 refine w_end ?_
 refine q_then ?_
 refine c_seq ?_
 refine rg ?_
 refine st (v := (Sl acode_0 code_0 ccode_0)) (rv_move rfl) ?_
 obtain ⟨r1, hx2, h'⟩ := bind_some h
 clear h
 have h := h'; clear h'
 have hc3 := c_spec_newReader (acode_0 := acode_0) (ccode_0 := ccode_0) hx2
 refine st_call (cx_call hc3 (ent_f hc3.fn rfl) hn0 (show Hp S0 σ0 _ ([Ch.ro 0 (Sl acode_0 code_0 ccode_0) code_0] ++ [Ch.ro 0 (Sl acode_0 code_0 ccode_0) code_0]) from (H.sel' [0, 0] rfl rfl))) wn ?_
 rintro _ σ7 ⟨_, ⟨b4, a5, c6, rfl, rfl⟩, H, -⟩
 replace H : Hp S0 σ0 σ7 [Ch.bx n0 b4 0 [(Sl a5 r1.1 c6), (I r1.2)] [] [], Ch.ro 0 (Sl a5 r1.1 c6) r1.1, Ch.ro 0 (Sl acode_0 code_0 ccode_0) code_0] := H
 obtain ⟨r8, hx9, h'⟩ := bind_some h
 clear h
 have h := h'; clear h'
 have hc10 := c_spec_anyLog (lor_0 := n0) (br_0 := b4) (or_0 := 0) (prer_0 := []) (sufr_0 := []) (ar_0_0 := a5) (cr_0_0 := c6) hx9
 refine st_call (cx_call hc10 (ent_f hc10.fn rfl) hn0 (show Hp S0 σ0 _ ([Ch.bx n0 b4 0 [(Sl a5 r1.1 c6), (I r1.2)] [] [], Ch.ro 0 (Sl a5 r1.1 c6) r1.1] ++ [Ch.ro 0 (Sl a5 r1.1 c6) r1.1, Ch.ro 0 (Sl acode_0 code_0 ccode_0) code_0]) from (H.sel' [0, 1, 1, 2] rfl rfl))) wn ?_
 rintro _ σ15 ⟨_, ⟨a11, c12, a13, c14, rfl, rfl⟩, H, -⟩
 replace H : Hp S0 σ0 σ15 [Ch.own n0 n0 (Sl a11 r8.1 c12) r8.1, Ch.bx n0 b4 0 [(Sl a13 r8.2.1 c14), (I r8.2.2)] [] [], Ch.ro 0 (Sl a13 r8.2.1 c14) r8.2.1, Ch.ro 0 (Sl a5 r1.1 c6) r1.1, Ch.ro 0 (Sl acode_0 code_0 ccode_0) code_0] := H
 refine st (v := (Sl a11 r8.1 c12)) (rv_assign rfl) ?_
 refine w_end ?_
 refine q_then ?_
 refine c_ret ?_
 obtain rfl := Option.some.inj h
 exact fin_ret (v := (Sl a11 r8.1 c12)) (results_ok Try.results25 (res_tmp (v := (Sl a11 r8.1 c12)) rfl res_nil) rfl) ⟨a11, c12, rfl, rfl⟩ (H.sel' [0] rfl rfl)

theorem c_impl_dropChange_key {c_0 : Int}  {r : Int} (h : M.impl_dropChange_key c_0 = some r) :
    Cal2 Try.prog 125 [(.agg #[(I c_0)])] [] (fun n0 v L => v = (I r) ∧ L = []) := by
 refine cal2 (n := 5) Try.func125 rfl rfl rfl rfl ?_
 intro S0 σ0 n0 hn0 H
 unfold M.impl_dropChange_key at h
 refine c_seq ?_
 refine rg ?_
 refine st_ex (ex_box (cs := [(I c_0)]) H hn0 rfl rfl) wn ?_
 rintro _ σ2 ⟨b1, rfl, H, -⟩
 refine st (v := (I 0)) (rv_assign rfl) ?_
 refine w_end ?_
 refine q_then ?_
 refine c_seq ?_
 refine rg ?_
 refine st (v := (pt b1 0)) (rv_fieldAddr (off := 0) (ft := 3) Try.underlying79 rfl ti3 rfl rfl) ?_
 have hc3 := H.cell (u := (I c_0)) (o' := 0) 0 0 rfl rfl rfl
 refine st (v := (I c_0)) (rv_load1 Try.underlying3 rfl rfl hc3) ?_
 refine st (v := (I c_0)) (rv_assign rfl) ?_
 refine w_end ?_
 refine q_then ?_
 refine c_ret ?_
 obtain rfl := Option.some.inj h
 exact fin_ret (v := (I c_0)) (results_ok Try.results125 (res_tmp (v := (I c_0)) rfl res_nil) rfl) ⟨rfl, rfl⟩ (H.sel' [] rfl rfl)

theorem c_impl_putChange_key {c_0 : (Int × (List Int) × Int)} {ac_0_0_1 : Option Addr} {cc_0_0_1 : Nat} {r : Int} (h : M.impl_putChange_key c_0 = some r) :
    Cal2 Try.prog 129 [(.agg #[(I c_0.1), (Sl ac_0_0_1 c_0.2.1 cc_0_0_1), (I c_0.2.2)])] [Ch.ro 0 (Sl ac_0_0_1 c_0.2.1 cc_0_0_1) c_0.2.1] (fun n0 v L => v = (I r) ∧ L = []) := by
 refine cal2 (n := 6) Try.func129 rfl rfl rfl rfl ?_
 intro S0 σ0 n0 hn0 H
 unfold M.impl_putChange_key at h
 refine c_seq ?_
 refine rg ?_
 refine st_ex (ex_box (cs := [(I c_0.1), (Sl ac_0_0_1 c_0.2.1 cc_0_0_1), (I c_0.2.2)]) H hn0 rfl rfl) wn ?_
 rintro _ σ2 ⟨b1, rfl, H, -⟩
 refine st (v := (I 0)) (rv_assign rfl) ?_
 refine w_end ?_
 refine q_then ?_
 refine c_seq ?_
 refine rg ?_
 refine st (v := (pt b1 0)) (rv_fieldAddr (off := 0) (ft := 36) Try.underlying82 rfl ti36 rfl rfl) ?_
 refine st (v := (pt b1 0)) (rv_fieldAddr (off := 0) (ft := 3) Try.underlying36 rfl ti3 rfl rfl) ?_
 have hc3 := H.cell (u := (I c_0.1)) (o' := 0) 0 0 rfl rfl rfl
 refine st (v := (I c_0.1)) (rv_load1 Try.underlying3 rfl rfl hc3) ?_
 refine st (v := (I c_0.1)) (rv_assign rfl) ?_
 refine w_end ?_
 refine q_then ?_
 refine c_ret ?_
 obtain rfl := Option.some.inj h
 exact fin_ret (v := (I c_0.1)) (results_ok Try.results129 (res_tmp (v := (I c_0.1)) rfl res_nil) rfl) ⟨rfl, rfl⟩ (H.sel' [] rfl rfl)

theorem c_impl_changeKey_1__p3 {c_0 : If2 Int ((Int × (List Int) × Int))} {p_1 : Int} {ac_0_i1_0_1 : Option Addr} {cc_0_i1_0_1 : Nat} {lop_1 bp_1 op_1 : Nat} {prep_1 sufp_1 : List Value} {r : Bool} (h : M.impl_changeKey_1__p3 c_0 p_1 = some r) :
    Cal2 Try.prog 88 [(ifs2 c_0.1 (.iface 79 (.agg #[(I c_0.2.1)])) (.iface 82 (.agg #[(I c_0.2.2.1), (Sl ac_0_i1_0_1 c_0.2.2.2.1 cc_0_i1_0_1), (I c_0.2.2.2.2)]))), (pt bp_1 op_1)] [Ch.ro 0 (Sl ac_0_i1_0_1 c_0.2.2.2.1 cc_0_i1_0_1) c_0.2.2.2.1, Ch.bx lop_1 bp_1 op_1 [(I p_1)] prep_1 sufp_1] (fun n0 v L => v = (B r) ∧ L = [Ch.bx lop_1 bp_1 op_1 [(I p_1)] prep_1 sufp_1]) := by
 refine cal2 (n := 8) Try.func88 rfl rfl rfl rfl ?_
 intro S0 σ0 n0 hn0 H
 unfold M.impl_changeKey_1__p3 at h
 refine c_seq ?_
 refine rg ?_
 refine st (v := (B false)) (rv_assign rfl) ?_
 refine w_end ?_
 refine q_then ?_
 refine c_seq ?_
 rcases Bool.eq_false_or_eq_true (c_0.1 == 1) with hb1 | hb1
 ·replace h := bif_t hb1 h
  have hv3 : (ifs2 c_0.1 (.iface 79 (.agg #[(I c_0.2.1)])) (.iface 82 (.agg #[(I c_0.2.2.1), (Sl ac_0_i1_0_1 c_0.2.2.2.1 cc_0_i1_0_1), (I c_0.2.2.2.2)]))) = (.iface 79 (.agg #[(I c_0.2.1)]) : Value) := ct hb1
  obtain ⟨r4, hx5, h'⟩ := bind_some h
  clear h
  have h := h'; clear h'
  have hc6 := c_impl_dropChange_key hx5
  have hc7 := H.cell (u := (I p_1)) (o' := op_1) 1 0 rfl rfl rfl
  have Hs := H
  refine rg2 (σ := σ0) (Nm := Unit) 3 [1] [[false], [true]] [[(0, 0)], [(0, 1)], [(0, 0), (1, 1)]] 1 [fun _ => fun σm => Hp S0 σ0 σm [Ch.ro 0 (Sl ac_0_i1_0_1 c_0.2.2.2.1 cc_0_i1_0_1) c_0.2.2.2.1, Ch.bx lop_1 bp_1 op_1 [(I p_1)] prep_1 sufp_1] ∧ Md (cov []) σ0 σm, fun _ => fun σm => Hp S0 σ0 σm [Ch.ro 0 (Sl ac_0_i1_0_1 c_0.2.2.2.1 cc_0_i1_0_1) c_0.2.2.2.1, Ch.bx lop_1 bp_1 op_1 [(I p_1)] prep_1 sufp_1] ∧ Md (cov []) σ0 σm] [fun _ => (ifs2 c_0.1 (.iface 79 (.agg #[(I c_0.2.1)])) (.iface 82 (.agg #[(I c_0.2.2.1), (Sl ac_0_i1_0_1 c_0.2.2.2.1 cc_0_i1_0_1), (I c_0.2.2.2.2)]))), fun _ => (I r4), fun _ => (I p_1)] () (by kernel_rfl) (by kernel_rfl) ?_ ?_ ?_
  ·intro σm m0
   exact ⟨H.grow (m0.mono fun _ h => h.elim), m0⟩
  ·refine ac rfl (by
     intro k _nm ρ σm hJ hoff hdep
     have e0 := look_off (N := 8) (hoff 0 rfl) rfl
     exact dp_v (v := (ifs2 c_0.1 (.iface 79 (.agg #[(I c_0.2.1)])) (.iface 82 (.agg #[(I c_0.2.2.1), (Sl ac_0_i1_0_1 c_0.2.2.2.1 cc_0_i1_0_1), (I c_0.2.2.2.2)])))) wn (rv_move e0) rfl hJ) ?_
   refine all_cons (by
     refine ⟨?_, ?_⟩
     ·intro _nm ρ σm hJ hoff hdep
      have e4 := hdep 0 rfl rfl 4 rfl
      obtain ⟨H, m⟩ := id hJ
      refine dp_cx wn (cx_call hc6 ((by exact ent_ix hc6.fn (by kernel_rfl) Try.underlying79 rfl (e4.trans hv3) rfl)) hn0 (show Hp S0 σ0 _ ([] ++ [Ch.ro 0 (Sl ac_0_i1_0_1 c_0.2.2.2.1 cc_0_i1_0_1) c_0.2.2.2.1, Ch.bx lop_1 bp_1 op_1 [(I p_1)] prep_1 sufp_1]) from (H.sel' [0, 1] rfl rfl))) ?_
      rintro _ σq ⟨_, ⟨rfl, rfl⟩, H2, m2⟩
      exact ⟨_, (), rfl, rfl, ⟨H2.sel' [0, 1] rfl rfl, m.comp0 m2⟩, stab [0, 2] (by kernel_rfl) ⟨rfl, rfl, trivial⟩⟩
     trivial) ?_
   refine all_cons (by
     refine ⟨?_, ?_⟩
     ·intro _nm ρ σm hJ hoff hdep
      have e1 := look_off (N := 8) (hoff 1 rfl) rfl
      obtain ⟨H, m⟩ := id hJ
      have hc7 := H.cell (u := (I p_1)) (o' := op_1) 1 0 rfl rfl rfl
      exact dp_v (v := (I p_1)) wn (rv_load1 Try.underlying3 rfl e1 hc7) rfl hJ
     refine ⟨?_, ?_⟩
     ·intro _nm ρ σm hJ hoff hdep
      have e1 := look_off (N := 8) (hoff 1 rfl) rfl
      obtain ⟨H, m⟩ := id hJ
      have hc7 := H.cell (u := (I p_1)) (o' := op_1) 1 0 rfl rfl rfl
      exact dp_v (v := (I p_1)) wn (rv_load1 Try.underlying3 rfl e1 hc7) rfl hJ
     trivial) ?_
   exact all_nil
  ·intro _nm ρ σ8 hJ hoff hrel
   have e1 := look_off (N := 8) (hoff 1 rfl) rfl
   have e5 := hrel 1 rfl 5 rfl
   have e6 := hrel 2 rfl 6 rfl
   obtain ⟨H, -⟩ := (show Hp S0 σ0 σ8 [Ch.ro 0 (Sl ac_0_i1_0_1 c_0.2.2.2.1 cc_0_i1_0_1) c_0.2.2.2.1, Ch.bx lop_1 bp_1 op_1 [(I p_1)] prep_1 sufp_1] ∧ Md (cov []) σ0 σ8 from hJ)
   clear hJ Hs
   rw [fr_lookL (L := [(1, (pt bp_1 op_1)), (5, (I r4)), (6, (I p_1))]) ⟨e1, e5, e6, trivial⟩]
   clear hoff hrel e1 e5 e6
   refine st (v := (B (r4 == p_1))) (rv_eql (a := r4) (b := p_1) rfl rfl) ?_
   refine st (v := (B (r4 == p_1))) (rv_assign rfl) ?_
   refine w_end ?_
   refine q_then ?_
   refine c_ret ?_
   obtain rfl := Option.some.inj h
   exact fin_ret (v := (B (r4 == p_1))) (results_ok Try.results88 (res_tmp (v := (B (r4 == p_1))) rfl res_nil) rfl) ⟨rfl, rfl⟩ (H.sel' [1] rfl rfl)
 ·replace h := bif_f hb1 h
  rcases Bool.eq_false_or_eq_true (c_0.1 == 2) with hb2 | hb2
  ·replace h := bif_t hb2 h
   have hv9 : (ifs2 c_0.1 (.iface 79 (.agg #[(I c_0.2.1)])) (.iface 82 (.agg #[(I c_0.2.2.1), (Sl ac_0_i1_0_1 c_0.2.2.2.1 cc_0_i1_0_1), (I c_0.2.2.2.2)]))) = (.iface 82 (.agg #[(I c_0.2.2.1), (Sl ac_0_i1_0_1 c_0.2.2.2.1 cc_0_i1_0_1), (I c_0.2.2.2.2)]) : Value) := (cf hb1).trans (ct hb2)
   obtain ⟨r10, hx11, h'⟩ := bind_some h
   clear h
   have h := h'; clear h'
   have hc12 := c_impl_putChange_key (ac_0_0_1 := ac_0_i1_0_1) (cc_0_0_1 := cc_0_i1_0_1) hx11
   have hc13 := H.cell (u := (I p_1)) (o' := op_1) 1 0 rfl rfl rfl
   have Hs := H
   refine rg2 (σ := σ0) (Nm := Unit) 3 [1] [[false], [true]] [[(0, 0)], [(0, 1)], [(0, 0), (1, 1)]] 1 [fun _ => fun σm => Hp S0 σ0 σm [Ch.ro 0 (Sl ac_0_i1_0_1 c_0.2.2.2.1 cc_0_i1_0_1) c_0.2.2.2.1, Ch.bx lop_1 bp_1 op_1 [(I p_1)] prep_1 sufp_1] ∧ Md (cov []) σ0 σm, fun _ => fun σm => Hp S0 σ0 σm [Ch.ro 0 (Sl ac_0_i1_0_1 c_0.2.2.2.1 cc_0_i1_0_1) c_0.2.2.2.1, Ch.bx lop_1 bp_1 op_1 [(I p_1)] prep_1 sufp_1] ∧ Md (cov []) σ0 σm] [fun _ => (ifs2 c_0.1 (.iface 79 (.agg #[(I c_0.2.1)])) (.iface 82 (.agg #[(I c_0.2.2.1), (Sl ac_0_i1_0_1 c_0.2.2.2.1 cc_0_i1_0_1), (I c_0.2.2.2.2)]))), fun _ => (I r10), fun _ => (I p_1)] () (by kernel_rfl) (by kernel_rfl) ?_ ?_ ?_
   ·intro σm m0
    exact ⟨H.grow (m0.mono fun _ h => h.elim), m0⟩
   ·refine ac rfl (by
      intro k _nm ρ σm hJ hoff hdep
      have e0 := look_off (N := 8) (hoff 0 rfl) rfl
      exact dp_v (v := (ifs2 c_0.1 (.iface 79 (.agg #[(I c_0.2.1)])) (.iface 82 (.agg #[(I c_0.2.2.1), (Sl ac_0_i1_0_1 c_0.2.2.2.1 cc_0_i1_0_1), (I c_0.2.2.2.2)])))) wn (rv_move e0) rfl hJ) ?_
    refine all_cons (by
      refine ⟨?_, ?_⟩
      ·intro _nm ρ σm hJ hoff hdep
       have e4 := hdep 0 rfl rfl 4 rfl
       obtain ⟨H, m⟩ := id hJ
       refine dp_cx wn (cx_call hc12 ((by exact ent_ix hc12.fn (by kernel_rfl) Try.underlying82 rfl (e4.trans hv9) rfl)) hn0 (show Hp S0 σ0 _ ([Ch.ro 0 (Sl ac_0_i1_0_1 c_0.2.2.2.1 cc_0_i1_0_1) c_0.2.2.2.1] ++ [Ch.ro 0 (Sl ac_0_i1_0_1 c_0.2.2.2.1 cc_0_i1_0_1) c_0.2.2.2.1, Ch.bx lop_1 bp_1 op_1 [(I p_1)] prep_1 sufp_1]) from (H.sel' [0, 0, 1] rfl rfl))) ?_
       rintro _ σq ⟨_, ⟨rfl, rfl⟩, H2, m2⟩
       exact ⟨_, (), rfl, rfl, ⟨H2.sel' [0, 1] rfl rfl, m.comp0 (m2.mono (fun i h => by simp [cov, Ch.ro] at h))⟩, stab [0, 2] (by kernel_rfl) ⟨rfl, rfl, trivial⟩⟩
      trivial) ?_
    refine all_cons (by
      refine ⟨?_, ?_⟩
      ·intro _nm ρ σm hJ hoff hdep
       have e1 := look_off (N := 8) (hoff 1 rfl) rfl
       obtain ⟨H, m⟩ := id hJ
       have hc13 := H.cell (u := (I p_1)) (o' := op_1) 1 0 rfl rfl rfl
       exact dp_v (v := (I p_1)) wn (rv_load1 Try.underlying3 rfl e1 hc13) rfl hJ
      refine ⟨?_, ?_⟩
      ·intro _nm ρ σm hJ hoff hdep
       have e1 := look_off (N := 8) (hoff 1 rfl) rfl
       obtain ⟨H, m⟩ := id hJ
       have hc13 := H.cell (u := (I p_1)) (o' := op_1) 1 0 rfl rfl rfl
       exact dp_v (v := (I p_1)) wn (rv_load1 Try.underlying3 rfl e1 hc13) rfl hJ
      trivial) ?_
    exact all_nil
   ·intro _nm ρ σ14 hJ hoff hrel
    have e1 := look_off (N := 8) (hoff 1 rfl) rfl
    have e5 := hrel 1 rfl 5 rfl
    have e6 := hrel 2 rfl 6 rfl
    obtain ⟨H, -⟩ := (show Hp S0 σ0 σ14 [Ch.ro 0 (Sl ac_0_i1_0_1 c_0.2.2.2.1 cc_0_i1_0_1) c_0.2.2.2.1, Ch.bx lop_1 bp_1 op_1 [(I p_1)] prep_1 sufp_1] ∧ Md (cov []) σ0 σ14 from hJ)
    clear hJ Hs
    rw [fr_lookL (L := [(1, (pt bp_1 op_1)), (5, (I r10)), (6, (I p_1))]) ⟨e1, e5, e6, trivial⟩]
    clear hoff hrel e1 e5 e6
    refine st (v := (B (r10 == p_1))) (rv_eql (a := r10) (b := p_1) rfl rfl) ?_
    refine st (v := (B (r10 == p_1))) (rv_assign rfl) ?_
    refine w_end ?_
    refine q_then ?_
    refine c_ret ?_
    obtain rfl := Option.some.inj h
    exact fin_ret (v := (B (r10 == p_1))) (results_ok Try.results88 (res_tmp (v := (B (r10 == p_1))) rfl res_nil) rfl) ⟨rfl, rfl⟩ (H.sel' [1] rfl rfl)
  ·replace h := bif_f hb2 h
   cases h

theorem c_slices_IndexFunc_impl_change_impl_change__impl_changeKey_1 {s_0 : List (If2 Int ((Int × (List Int) × Int)))} {f_1_0 : Int} {as_0 : Option Addr} {cs_0 : Nat} {lof_1_0 bf_1_0 of_1_0 : Nat} {pref_1_0 suff_1_0 : List Value} {r : Int} (h : M.slices_IndexFunc_impl_change_impl_change__impl_changeKey_1 s_0 f_1_0 = some r) :
    Cal2 Try.prog 102 [(Sl as_0 s_0 cs_0), (.func (.func 88) #[] #[(pt bf_1_0 of_1_0)])] [Ch.ro 0 (Sl as_0 s_0 cs_0) s_0, Ch.bx lof_1_0 bf_1_0 of_1_0 [(I f_1_0)] pref_1_0 suff_1_0] (fun n0 v L => v = (I r) ∧ L = [Ch.bx lof_1_0 bf_1_0 of_1_0 [(I f_1_0)] pref_1_0 suff_1_0]) := by
 refine cal2 (n := 19) Try.func102 rfl rfl rfl rfl ?_
 intro S0 σ0 n0 hn0 H
 unfold M.slices_IndexFunc_impl_change_impl_change__impl_changeKey_1 at h
 refine c_seq ?_
 refine rg ?_
 refine st (v := (I 0)) (rv_assign rfl) ?_
 refine w_end ?_
 refine q_then ?_
 refine c_seq ?_
 refine c_seq ?_
 refine rg ?_
 refine st (v := (Sl as_0 s_0 cs_0)) (rv_move rfl) ?_
 refine st (v := (I (s_0.length : Int))) (rv_len Try.underlying58 rfl) ?_
 refine st (v := (I 0)) (rv_move rfl) ?_
 refine w_end ?_
 refine q_then ?_
 obtain ⟨o1, hj, h'⟩ := bind_some h
 clear h
 refine c_cut (fun e a w => (∃ t, o1 = (.inl t) ∧ e = .normal ∧ ∃ (ρ : Nat → Value) (σ : St), a = fr 19 (updL ρ [(1, (.func (.func 88) #[] #[(pt bf_1_0 of_1_0)]))]) ∧ w = σ.w ∧ Hp S0 σ0 σ [Ch.bx lof_1_0 bf_1_0 of_1_0 [(I f_1_0)] pref_1_0 suff_1_0]) ∨ (∃ t, o1 = (.inr t) ∧ e = .ret ∧ ∃ (ρ : Nat → Value) (σ : St), a = fr 19 (updL ρ [(1, (.func (.func 88) #[] #[(pt bf_1_0 of_1_0)])), (4, (I t))]) ∧ w = σ.w ∧ Hp S0 σ0 σ [Ch.bx lof_1_0 bf_1_0 of_1_0 [(I f_1_0)] pref_1_0 suff_1_0])) ?_ ?_
 ·clear h'
  rename _ = some o1 => h
  refine c_blk ?_
  refine wp_loopM _ h (fun s2 a w => ∃ (ρ : Nat → Value) (σ : St), a = fr 19 (updL ρ [(0, (Sl as_0 s_0 cs_0)), (1, (.func (.func 88) #[] #[(pt bf_1_0 of_1_0)])), (7, (I (s_0.length : Int))), (8, (I s2))]) ∧ w = σ.w ∧ Hp S0 σ0 σ [Ch.ro 0 (Sl as_0 s_0 cs_0) s_0, Ch.bx lof_1_0 bf_1_0 of_1_0 [(I f_1_0)] pref_1_0 suff_1_0]) ⟨_, σ0, fr_join ⟨rfl, rfl, rfl, rfl, trivial⟩, rfl, H.sel' [0, 1] rfl rfl⟩ ?_
  clear h H
  rintro s2 a w o ⟨ρ, σ3, rfl, rfl, H⟩ h hres
  refine c_seq ?_
  refine rg ?_
  refine st (v := (B (decide (s2 < (s_0.length : Int))))) (rv_lss (a := s2) (b := (s_0.length : Int)) rfl rfl) ?_
  refine w_end ?_
  refine q_then ?_
  refine c_seq ?_
  refine cd_cond (decide (s2 < (s_0.length : Int))) rfl (fun hb4 => ?_) (fun hb4 => ?_)
  ·replace h := bif_t hb4 h
   refine c_skip ?_
   refine q_then ?_
   refine c_seq ?_
   refine c_blk ?_
   refine c_seq ?_
   refine rg ?_
   refine st (v := (I s2)) (rv_move rfl) ?_
   refine st (v := (I s2)) (rv_assign rfl) ?_
   refine w_end ?_
   refine q_then ?_
   refine c_seq ?_
   refine rg ?_
   refine st (v := (.func (.func 88) #[] #[(pt bf_1_0 of_1_0)])) (rv_move rfl) ?_
   refine st (v := (Sl as_0 s_0 cs_0)) (rv_move rfl) ?_
   refine st (v := (I s2)) (rv_move rfl) ?_
   obtain ⟨x5, hx6, h'⟩ := bind_some h
   clear h
   have h := h'; clear h'
   obtain ⟨b8, o9, hi7, -⟩ := (H.ro 0 rfl).ix hx6
   refine st (v := (pt b8 o9)) (rv_ix Try.underlying58 ti65 rfl rfl hi7) ?_
   obtain ⟨_, ⟨_, _, rfl, ⟨_, _, rfl, rfl, ⟨_, _, rfl, ⟨_, rfl, hR15⟩, rfl⟩⟩, rfl⟩, hl10, hq11⟩ := ((H.ro 0 rfl).at hx6 hi7).cells
   obtain ⟨a13, c14, rfl⟩ := hR15.isSl
   have hc12 : HCell _ _ _ = some (ifs2 x5.1 (.iface 79 (.agg #[(I x5.2.1)])) (.iface 82 (.agg #[(I x5.2.2.1), (Sl a13 x5.2.2.2.1 c14), (I x5.2.2.2.2)]))) := hq11 0 Nat.zero_lt_one
   clear hq11
   replace H := H.add (d := Ch.ro 0 (Sl a13 x5.2.2.2.1 c14) x5.2.2.2.1) hR15 (fun _ h => h)
   clear hR15
   refine st (v := (ifs2 x5.1 (.iface 79 (.agg #[(I x5.2.1)])) (.iface 82 (.agg #[(I x5.2.2.1), (Sl a13 x5.2.2.2.1 c14), (I x5.2.2.2.2)])))) (rv_load1 Try.underlying65 rfl rfl hc12) ?_
   obtain ⟨r16, hx17, h'⟩ := bind_some h
   clear h
   have h := h'; clear h'
   have hc18 := c_impl_changeKey_1__p3 (ac_0_i1_0_1 := a13) (cc_0_i1_0_1 := c14) (lop_1 := lof_1_0) (bp_1 := bf_1_0) (op_1 := of_1_0) (prep_1 := pref_1_0) (sufp_1 := suff_1_0) hx17
   refine st_call (cx_call hc18 (ent_v (cap := [(pt bf_1_0 of_1_0)]) hc18.fn rfl rfl) hn0 (show Hp S0 σ0 _ ([Ch.ro 0 (Sl a13 x5.2.2.2.1 c14) x5.2.2.2.1, Ch.bx lof_1_0 bf_1_0 of_1_0 [(I f_1_0)] pref_1_0 suff_1_0] ++ [Ch.ro 0 (Sl a13 x5.2.2.2.1 c14) x5.2.2.2.1, Ch.ro 0 (Sl as_0 s_0 cs_0) s_0]) from (H.sel' [0, 2, 0, 1] rfl rfl))) wn ?_
   rintro _ σ19 ⟨_, ⟨rfl, rfl⟩, H, -⟩
   replace H : Hp S0 σ0 σ19 [Ch.bx lof_1_0 bf_1_0 of_1_0 [(I f_1_0)] pref_1_0 suff_1_0, Ch.ro 0 (Sl a13 x5.2.2.2.1 c14) x5.2.2.2.1, Ch.ro 0 (Sl as_0 s_0 cs_0) s_0] := H
   refine w_end ?_
   refine q_then ?_
   refine cd_cond r16 rfl (fun hb20 => ?_) (fun hb20 => ?_)
   ·replace h := bif_t hb20 h
    refine c_seq ?_
    refine rg ?_
    refine st (v := (I s2)) (rv_move rfl) ?_
    refine st (v := (I s2)) (rv_assign rfl) ?_
    refine w_end ?_
    refine q_then ?_
    refine c_ret ?_
    refine q_blk_r ?_
    refine q_then_r ?_
    refine q_then_r ?_
    refine q_blk_r ?_
    obtain rfl := Option.some.inj h
    obtain rfl := hres _ rfl
    exact .inr (⟨_, rfl, rfl, _, σ19, fr_join ⟨rfl, rfl, trivial⟩, rfl, H.sel' [0] rfl rfl⟩)
   ·replace h := bif_f hb20 h
    refine c_skip ?_
    refine q_blk ?_
    refine q_then ?_
    refine rg ?_
    refine st (v := (I (w64 (s2 + 1)))) (rv_add (a := s2) (b := 1) rfl rfl) ?_
    refine st (v := (I (w64 (s2 + 1)))) (rv_move rfl) ?_
    refine w_end ?_
    refine q_then ?_
    obtain rfl := Option.some.inj h
    exact ⟨_, rfl, _, σ19, fr_join ⟨rfl, rfl, rfl, rfl, trivial⟩, rfl, H.sel' [2, 0] rfl rfl⟩
  ·replace h := bif_f hb4 h
   refine c_exit ?_
   refine q_then_x ?_
   refine q_then_x ?_
   refine q_blk_hit ?_
   obtain rfl := Option.some.inj h
   obtain rfl := hres _ rfl
   exact .inl ⟨_, rfl, rfl, _, σ3, fr_join ⟨rfl, trivial⟩, rfl, H.sel' [1] rfl rfl⟩
 ·clear hj
  have h := h'
  clear h' H
  rintro e a w (⟨t21, rfl, rfl, ρ, σ22, rfl, rfl, H⟩ | ⟨t23, rfl, rfl, ρ, σ24, rfl, rfl, H⟩)
  ·replace h := selim_l h
   refine q_then ?_
   refine c_seq ?_
   refine rg ?_
   refine st (v := (I (-1))) (rv_assign rfl) ?_
   refine w_end ?_
   refine q_then ?_
   refine c_ret ?_
   obtain rfl := Option.some.inj h
   exact fin_ret (v := (I (-1))) (results_ok Try.results102 (res_tmp (v := (I (-1))) rfl res_nil) rfl) ⟨rfl, rfl⟩ (H.sel' [0] rfl rfl)
  ·replace h := selim_r h
   refine q_then_r ?_
   obtain rfl := Option.some.inj h
   exact fin_ret (v := (I t23)) (results_ok Try.results102 (res_tmp (v := (I t23)) rfl res_nil) rfl) ⟨rfl, rfl⟩ (H.sel' [0] rfl rfl)

theorem c_slices_ContainsFunc_impl_change_impl_change__impl_changeKey_1 {s_0 : List (If2 Int ((Int × (List Int) × Int)))} {f_1_0 : Int} {as_0 : Option Addr} {cs_0 : Nat} {lof_1_0 bf_1_0 of_1_0 : Nat} {pref_1_0 suff_1_0 : List Value} {r : Bool} (h : M.slices_ContainsFunc_impl_change_impl_change__impl_changeKey_1 s_0 f_1_0 = some r) :
    Cal2 Try.prog 87 [(Sl as_0 s_0 cs_0), (.func (.func 88) #[] #[(pt bf_1_0 of_1_0)])] [Ch.ro 0 (Sl as_0 s_0 cs_0) s_0, Ch.bx lof_1_0 bf_1_0 of_1_0 [(I f_1_0)] pref_1_0 suff_1_0] (fun n0 v L => v = (B r) ∧ L = [Ch.bx lof_1_0 bf_1_0 of_1_0 [(I f_1_0)] pref_1_0 suff_1_0]) := by
 refine cal2 (n := 9) Try.func87 rfl rfl rfl rfl ?_
 intro S0 σ0 n0 hn0 H
 unfold M.slices_ContainsFunc_impl_change_impl_change__impl_changeKey_1 at h
 refine c_seq ?_
 refine rg ?_
 refine st (v := (B false)) (rv_assign rfl) ?_
 refine w_end ?_
 refine q_then ?_
 refine c_seq ?_
 refine rg ?_
 refine st (v := (Sl as_0 s_0 cs_0)) (rv_move rfl) ?_
 refine st (v := (.func (.func 88) #[] #[(pt bf_1_0 of_1_0)])) (rv_move rfl) ?_
 obtain ⟨r1, hx2, h'⟩ := bind_some h
 clear h
 have h := h'; clear h'
 have hc3 := c_slices_IndexFunc_impl_change_impl_change__impl_changeKey_1 (as_0 := as_0) (cs_0 := cs_0) (lof_1_0 := lof_1_0) (bf_1_0 := bf_1_0) (of_1_0 := of_1_0) (pref_1_0 := pref_1_0) (suff_1_0 := suff_1_0) hx2
 refine st_call (cx_call hc3 (ent_f hc3.fn rfl) hn0 (show Hp S0 σ0 _ ([Ch.ro 0 (Sl as_0 s_0 cs_0) s_0, Ch.bx lof_1_0 bf_1_0 of_1_0 [(I f_1_0)] pref_1_0 suff_1_0] ++ [Ch.ro 0 (Sl as_0 s_0 cs_0) s_0]) from (H.sel' [0, 1, 0] rfl rfl))) wn ?_
 rintro _ σ4 ⟨_, ⟨rfl, rfl⟩, H, -⟩
 replace H : Hp S0 σ0 σ4 [Ch.bx lof_1_0 bf_1_0 of_1_0 [(I f_1_0)] pref_1_0 suff_1_0, Ch.ro 0 (Sl as_0 s_0 cs_0) s_0] := H
 refine st (v := (B (decide (0 ≤ r1)))) (rv_geq (a := r1) (b := 0) rfl rfl) ?_
 refine st (v := (B (decide (0 ≤ r1)))) (rv_assign rfl) ?_
 refine w_end ?_
 refine q_then ?_
 refine c_ret ?_
 obtain rfl := Option.some.inj h
 exact fin_ret (v := (B (decide (0 ≤ r1)))) (results_ok Try.results87 (res_tmp (v := (B (decide (0 ≤ r1)))) rfl res_nil) rfl) ⟨rfl, rfl⟩ (H.sel' [0] rfl rfl)

theorem c_impl_changeKey {changes_0 : List (If2 Int ((Int × (List Int) × Int)))} {key_1 : Int} {achanges_0 : Option Addr} {cchanges_0 : Nat} {r : Bool} (h : M.impl_changeKey changes_0 key_1 = some r) :
    Cal2 Try.prog 54 [(Sl achanges_0 changes_0 cchanges_0), (I key_1)] [Ch.ro 0 (Sl achanges_0 changes_0 cchanges_0) changes_0] (fun n0 v L => v = (B r) ∧ L = []) := by
 refine cal2 (n := 8) Try.func54 rfl rfl rfl rfl ?_
 intro S0 σ0 n0 hn0 H
 unfold M.impl_changeKey at h
 refine c_seq ?_
 refine rg ?_
 refine st_ex (ex_box (cs := [(I key_1)]) H hn0 rfl rfl) wn ?_
 rintro _ σ2 ⟨b1, rfl, H, -⟩
 refine st (v := (B false)) (rv_assign rfl) ?_
 refine w_end ?_
 refine q_then ?_
 refine c_seq ?_
 refine rg ?_
 refine st (v := (Sl achanges_0 changes_0 cchanges_0)) (rv_move rfl) ?_
 refine st (v := (.func (.func 88) #[] #[(pt b1 0)])) (rv_makeFunc (vs := [(pt b1 0)]) rfl) ?_
 obtain ⟨r3, hx4, h'⟩ := bind_some h
 clear h
 have h := h'; clear h'
 have hc5 := c_slices_ContainsFunc_impl_change_impl_change__impl_changeKey_1 (as_0 := achanges_0) (cs_0 := cchanges_0) (lof_1_0 := n0) (bf_1_0 := b1) (of_1_0 := 0) (pref_1_0 := []) (suff_1_0 := []) hx4
 refine st_call (cx_call hc5 (ent_f hc5.fn rfl) hn0 (show Hp S0 σ0 _ ([Ch.ro 0 (Sl achanges_0 changes_0 cchanges_0) changes_0, Ch.bx n0 b1 0 [(I key_1)] [] []] ++ [Ch.ro 0 (Sl achanges_0 changes_0 cchanges_0) changes_0]) from (H.sel' [1, 0, 1] rfl rfl))) wn ?_
 rintro _ σ6 ⟨_, ⟨rfl, rfl⟩, H, -⟩
 replace H : Hp S0 σ0 σ6 [Ch.bx n0 b1 0 [(I key_1)] [] [], Ch.ro 0 (Sl achanges_0 changes_0 cchanges_0) changes_0] := H
 refine st (v := (B r3)) (rv_assign rfl) ?_
 refine w_end ?_
 refine q_then ?_
 refine c_ret ?_
 obtain rfl := Option.some.inj h
 exact fin_ret (v := (B r3)) (results_ok Try.results54 (res_tmp (v := (B r3)) rfl res_nil) rfl) ⟨rfl, rfl⟩ (H.sel' [] rfl rfl)

theorem c_impl_dropChange_entry {c_0 : Int}  {r : (Int × (Int × (List Int) × Int))} (h : M.impl_dropChange_entry c_0 = some r) :
    Cal2 Try.prog 56 [(.agg #[(I c_0)])] [] (fun n0 v L => v = (.agg #[(I r.1), (I r.2.1), (.slice none 0 0), (I r.2.2.2)]) ∧ L = []) := by
 refine cal2 (n := 7) Try.func56 rfl rfl rfl rfl ?_
 intro S0 σ0 n0 hn0 H
 unfold M.impl_dropChange_entry at h
 refine c_seq ?_
 refine rg ?_
 refine st_ex (ex_box (cs := [(I c_0)]) H hn0 rfl rfl) wn ?_
 rintro _ σ2 ⟨b1, rfl, H, -⟩
 refine st_ex (ex_alloc (cs := [(I 0), (I 0), (.slice none 0 0), (I 0)]) H hn0 ti38 rfl) wn ?_
 rintro _ σ4 ⟨b3, rfl, H, -⟩
 refine w_end ?_
 refine q_then ?_
 refine c_seq ?_
 refine rg ?_
 refine st (v := (pt b1 0)) (rv_fieldAddr (off := 0) (ft := 3) Try.underlying79 rfl ti3 rfl rfl) ?_
 have hc5 := H.cell (u := (I c_0)) (o' := 0) 1 0 rfl rfl rfl
 refine st (v := (I c_0)) (rv_load1 Try.underlying3 rfl rfl hc5) ?_
 refine st (v := (.agg #[(I c_0), (.slice none 0 0), (I 0)])) (rv_build (ps := [(0, (I c_0))]) Try.underlying36 ti36 (bp36 Try.underlying36) rfl (by kernel_rfl)) ?_
 refine st (v := (.agg #[(I 2), (I c_0), (.slice none 0 0), (I 0)])) (rv_build (ps := [(0, (I 2)), (1, (.agg #[(I c_0), (.slice none 0 0), (I 0)]))]) Try.underlying38 ti38 (bp38 Try.underlying38) rfl (by kernel_rfl)) ?_
 refine st_exS (ex_store_box (k := 0) (cs := [(I 0), (I 0), (.slice none 0 0), (I 0)]) (vs := [(I 2), (I c_0), (.slice none 0 0), (I 0)]) (cs' := [(I 2), (I c_0), (.slice none 0 0), (I 0)]) H (i := 0) rfl ti38 rfl rfl rfl rfl rfl (Nat.le_of_ble_eq_true rfl) (by simp [plain]) rfl) wn ?_
 rintro σ6 ⟨H, -⟩
 refine w_end ?_
 refine q_then ?_
 refine c_ret ?_
 obtain rfl := Option.some.inj h
 exact fin_ret (v := (.agg #[(I 2), (I c_0), (.slice none 0 0), (I 0)])) (results_ok Try.results56 (res_cell rfl (run_cellRes (cs := [(I 2), (I c_0), (.slice none 0 0), (I 0)]) Try.underlying38 rfl ti38 rfl (H.cells 0 rfl)) res_nil) rfl) ⟨rfl, rfl⟩ (H.sel' [] rfl rfl)

theorem c_slices_Clone_int_int {s_0 : List Int} {as_0 : Option Addr} {cs_0 : Nat} {r : (List Int)} (h : M.slices_Clone_int_int s_0 = some r) :
    Cal2 Try.prog 86 [(Sl as_0 s_0 cs_0)] [Ch.ro 0 (Sl as_0 s_0 cs_0) s_0] (fun n0 v L => ∃ (az1 : Option Addr), ∃ (cz2 : Nat), v = (Sl az1 r cz2) ∧ L = [Ch.own n0 n0 (Sl az1 r cz2) r]) := by
 refine cal2 (n := 8) Try.func86 rfl rfl rfl rfl ?_
 intro S0 σ0 n0 hn0 H
 unfold M.slices_Clone_int_int at h
 refine c_seq ?_
 refine rg ?_
 refine st (v := (.slice none 0 0)) (rv_assign rfl) ?_
 refine w_end ?_
 refine q_then ?_
 refine c_seq ?_
 refine c_seq ?_
 refine rg ?_
 refine st (v := (Sl as_0 s_0 cs_0)) (rv_move rfl) ?_
 refine st (v := (B as_0.isNone)) (rv_nilS Try.underlying34 rfl rfl) ?_
 refine w_end ?_
 refine q_then ?_
 refine cd_cond as_0.isNone rfl (fun hb1 => ?_) (fun hb1 => ?_)
 ·have hq := RS.nilOf hb1 (H.ro 0 rfl)
  subst hq
  replace h : some [] = some r := by simpa [gapp] using h
  refine c_seq ?_
  refine rg ?_
  refine st (v := (.slice none 0 0)) (rv_assign rfl) ?_
  refine w_end ?_
  refine q_then ?_
  refine c_ret ?_
  refine q_then_r ?_
  replace H := H.nilOwn Int n0 n0
  obtain rfl := Option.some.inj h
  exact fin_ret (v := (.slice none 0 0)) (results_ok Try.results86 (res_tmp (v := (.slice none 0 0)) rfl res_nil) rfl) ⟨none, 0, rfl, rfl⟩ (H.sel' [0] rfl rfl)
 ·refine c_skip ?_
  refine q_then ?_
  refine c_seq ?_
  refine rg ?_
  refine st_ex (ex_buildSlice (el := n0) (xs := ([] : List Int)) (ps := []) (cs := []) H hn0 Try.underlying34 ti3 rfl rfl (by kernel_rfl) (.nil) rfl) wn ?_
  rintro _ σ3 ⟨b2, rfl, H, -⟩
  refine st (v := (Sl as_0 s_0 cs_0)) (rv_move rfl) ?_
  obtain ⟨xs4, hx5, h'⟩ := bind_some h
  clear h
  have h := h'; clear h'
  refine st_ex (ex_append H (i := 0) rfl Try.underlying34 Try.underlying34 ti3 rfl rfl (by decide) ((H.ro 1 rfl).rd.sc) hx5 hn0 rfl rfl) wn ?_
  rintro _ σ8 ⟨a6, c7, rfl, H, -⟩
  refine st (v := (Sl a6 xs4 c7)) (rv_assign rfl) ?_
  refine w_end ?_
  refine q_then ?_
  refine c_ret ?_
  obtain rfl := Option.some.inj h
  exact fin_ret (v := (Sl a6 xs4 c7)) (results_ok Try.results86 (res_tmp (v := (Sl a6 xs4 c7)) rfl res_nil) rfl) ⟨a6, c7, rfl, rfl⟩ (H.sel' [0] rfl rfl)

theorem c_impl_copyItem {x_0 : Int × (List Int) × Int} {ax_0_1 : Option Addr} {cx_0_1 : Nat} {r : (Int × (List Int) × Int)} (h : M.impl_copyItem x_0 = some r) :
    Cal2 Try.prog 53 [(.agg #[(I x_0.1), (Sl ax_0_1 x_0.2.1 cx_0_1), (I x_0.2.2)])] [Ch.ro 0 (Sl ax_0_1 x_0.2.1 cx_0_1) x_0.2.1] (fun n0 v L => ∃ (az1 : Option Addr), ∃ (cz2 : Nat), v = (.agg #[(I r.1), (Sl az1 r.2.1 cz2), (I r.2.2)]) ∧ L = [Ch.own n0 n0 (Sl az1 r.2.1 cz2) r.2.1]) := by
 refine cal2 (n := 11) Try.func53 rfl rfl rfl rfl ?_
 intro S0 σ0 n0 hn0 H
 unfold M.impl_copyItem at h
 refine c_seq ?_
 refine rg ?_
 refine st_ex (ex_box (cs := [(I x_0.1), (Sl ax_0_1 x_0.2.1 cx_0_1), (I x_0.2.2)]) H hn0 rfl rfl) wn ?_
 rintro _ σ2 ⟨b1, rfl, H, -⟩
 refine st_ex (ex_alloc (cs := [(I 0), (.slice none 0 0), (I 0)]) H hn0 ti36 rfl) wn ?_
 rintro _ σ4 ⟨b3, rfl, H, -⟩
 refine w_end ?_
 refine q_then ?_
 refine c_seq ?_
 have hc5 := H.cell (u := (I x_0.1)) (o' := 0) 1 0 rfl rfl rfl
 have hc6 := H.cell (u := (Sl ax_0_1 x_0.2.1 cx_0_1)) (o' := 1) 1 1 rfl rfl rfl
 obtain ⟨r7, hx8, h'⟩ := bind_some h
 clear h
 have h := h'; clear h'
 have hc9 := c_slices_Clone_int_int (as_0 := ax_0_1) (cs_0 := cx_0_1) hx8
 have hc12 := H.cell (u := (I x_0.2.2)) (o' := 2) 1 2 rfl rfl rfl
 have Hs := H
 refine rg2 (σ := σ4) (Nm := (Option Addr) × (Nat)) 7 [4] [[false], [true]] [[(0, 0), (1, 1)], [(0, 0), (1, 1)], [(0, 0)], [(0, 0)], [(0, 1)], [(0, 0), (1, 1)], [(0, 0), (1, 1)]] 1 [fun ((a10, c11) : (Option Addr) × (Nat)) => fun σm => Hp S0 σ0 σm [Ch.bx n0 b3 0 [(I 0), (.slice none 0 0), (I 0)] [] [], Ch.bx n0 b1 0 [(I x_0.1), (Sl ax_0_1 x_0.2.1 cx_0_1), (I x_0.2.2)] [] [], Ch.ro 0 (Sl ax_0_1 x_0.2.1 cx_0_1) x_0.2.1] ∧ Md (cov []) σ4 σm, fun ((a10, c11) : (Option Addr) × (Nat)) => fun σm => Hp S0 σ0 σm [Ch.own n0 n0 (Sl a10 r7 c11) r7, Ch.bx n0 b3 0 [(I 0), (.slice none 0 0), (I 0)] [] [], Ch.bx n0 b1 0 [(I x_0.1), (Sl ax_0_1 x_0.2.1 cx_0_1), (I x_0.2.2)] [] [], Ch.ro 0 (Sl ax_0_1 x_0.2.1 cx_0_1) x_0.2.1] ∧ Md (cov []) σ4 σm] [fun ((a10, c11) : (Option Addr) × (Nat)) => (pt b1 0), fun ((a10, c11) : (Option Addr) × (Nat)) => (I x_0.1), fun ((a10, c11) : (Option Addr) × (Nat)) => (pt b1 1), fun ((a10, c11) : (Option Addr) × (Nat)) => (Sl ax_0_1 x_0.2.1 cx_0_1), fun ((a10, c11) : (Option Addr) × (Nat)) => (Sl a10 r7 c11), fun ((a10, c11) : (Option Addr) × (Nat)) => (pt b1 2), fun ((a10, c11) : (Option Addr) × (Nat)) => (I x_0.2.2)] (none, 0) (by kernel_rfl) (by kernel_rfl) ?_ ?_ ?_
 ·intro σm m0
  exact ⟨H.grow (m0.mono fun _ h => h.elim), m0⟩
 ·refine ac rfl (by
    intro k; rintro ⟨a10, c11⟩ ρ σm hJ hoff hdep
    have e1 := look_off (N := 11) (hoff 1 rfl) rfl
    exact dp_v (v := (pt b1 0)) wn (rv_fieldAddr (off := 0) (ft := 3) Try.underlying36 rfl ti3 rfl e1) rfl hJ) ?_
  refine all_cons (by
    refine ⟨?_, ?_⟩
    ·rintro ⟨a10, c11⟩ ρ σm hJ hoff hdep
     have e3 := hdep 0 rfl rfl 3 rfl
     obtain ⟨H, m⟩ := id hJ
     have hc5 := H.cell (u := (I x_0.1)) (o' := 0) 1 0 rfl rfl rfl
     exact dp_v (v := (I x_0.1)) wn (rv_load1 Try.underlying3 rfl e3 hc5) rfl hJ
    refine ⟨?_, ?_⟩
    ·rintro ⟨a10, c11⟩ ρ σm hJ hoff hdep
     have e3 := hdep 0 rfl rfl 3 rfl
     obtain ⟨H, m⟩ := id hJ
     have hc5 := H.cell (u := (I x_0.1)) (o' := 0) 2 0 rfl rfl rfl
     exact dp_v (v := (I x_0.1)) wn (rv_load1 Try.underlying3 rfl e3 hc5) rfl hJ
    trivial) ?_
  refine ac rfl (by
    intro k; rintro ⟨a10, c11⟩ ρ σm hJ hoff hdep
    have e1 := look_off (N := 11) (hoff 1 rfl) rfl
    exact dp_v (v := (pt b1 1)) wn (rv_fieldAddr (off := 1) (ft := 34) Try.underlying36 rfl ti34 rfl e1) rfl hJ) ?_
  refine all_cons (by
    refine ⟨?_, ?_⟩
    ·rintro ⟨a10, c11⟩ ρ σm hJ hoff hdep
     have e5 := hdep 2 rfl rfl 5 rfl
     obtain ⟨H, m⟩ := id hJ
     have hc6 := H.cell (u := (Sl ax_0_1 x_0.2.1 cx_0_1)) (o' := 1) 1 1 rfl rfl rfl
     exact dp_v (v := (Sl ax_0_1 x_0.2.1 cx_0_1)) wn (rv_load1 Try.underlying34 rfl e5 hc6) rfl hJ
    trivial) ?_
  refine all_cons (by
    refine ⟨?_, ?_⟩
    ·rintro ⟨a10, c11⟩ ρ σm hJ hoff hdep
     have e6 : look 11 ρ 6 = (Sl ax_0_1 x_0.2.1 cx_0_1) := hdep 3 rfl rfl 6 rfl
     obtain ⟨H, m⟩ := id hJ
     refine dp_cx wn (cx_call hc9 (ent_f hc9.fn (by show [look 11 ρ 6] = _; rw [e6])) hn0 (show Hp S0 σ0 _ ([Ch.ro 0 (Sl ax_0_1 x_0.2.1 cx_0_1) x_0.2.1] ++ [Ch.bx n0 b3 0 [(I 0), (.slice none 0 0), (I 0)] [] [], Ch.bx n0 b1 0 [(I x_0.1), (Sl ax_0_1 x_0.2.1 cx_0_1), (I x_0.2.2)] [] [], Ch.ro 0 (Sl ax_0_1 x_0.2.1 cx_0_1) x_0.2.1]) from (H.sel' [2, 0, 1, 2] rfl rfl))) ?_
     rintro _ σq ⟨_, ⟨a10x, c11x, rfl, rfl⟩, H2, m2⟩
     exact ⟨_, (a10x, c11x), rfl, rfl, ⟨H2.sel' [0, 1, 2, 3] rfl rfl, m.comp0 (m2.mono (fun i h => by simp [cov, Ch.ro] at h))⟩, stab [0, 1, 2, 3, 5, 6] (by kernel_rfl) ⟨rfl, rfl, rfl, rfl, rfl, rfl, trivial⟩⟩
    trivial) ?_
  refine ac rfl (by
    intro k; rintro ⟨a10, c11⟩ ρ σm hJ hoff hdep
    have e1 := look_off (N := 11) (hoff 1 rfl) rfl
    exact dp_v (v := (pt b1 2)) wn (rv_fieldAddr (off := 2) (ft := 3) Try.underlying36 rfl ti3 rfl e1) rfl hJ) ?_
  refine all_cons (by
    refine ⟨?_, ?_⟩
    ·rintro ⟨a10, c11⟩ ρ σm hJ hoff hdep
     have e8 := hdep 5 rfl rfl 8 rfl
     obtain ⟨H, m⟩ := id hJ
     have hc12 := H.cell (u := (I x_0.2.2)) (o' := 2) 1 2 rfl rfl rfl
     exact dp_v (v := (I x_0.2.2)) wn (rv_load1 Try.underlying3 rfl e8 hc12) rfl hJ
    refine ⟨?_, ?_⟩
    ·rintro ⟨a10, c11⟩ ρ σm hJ hoff hdep
     have e8 := hdep 5 rfl rfl 8 rfl
     obtain ⟨H, m⟩ := id hJ
     have hc12 := H.cell (u := (I x_0.2.2)) (o' := 2) 2 2 rfl rfl rfl
     exact dp_v (v := (I x_0.2.2)) wn (rv_load1 Try.underlying3 rfl e8 hc12) rfl hJ
    trivial) ?_
  exact all_nil
 ·rintro ⟨a10, c11⟩ ρ σ13 hJ hoff hrel
  have e2 := look_off (N := 11) (hoff 2 rfl) rfl
  have e4 := hrel 1 rfl 4 rfl
  have e7 := hrel 4 rfl 7 rfl
  have e9 := hrel 6 rfl 9 rfl
  obtain ⟨H, -⟩ := (show Hp S0 σ0 σ13 [Ch.own n0 n0 (Sl a10 r7 c11) r7, Ch.bx n0 b3 0 [(I 0), (.slice none 0 0), (I 0)] [] [], Ch.bx n0 b1 0 [(I x_0.1), (Sl ax_0_1 x_0.2.1 cx_0_1), (I x_0.2.2)] [] [], Ch.ro 0 (Sl ax_0_1 x_0.2.1 cx_0_1) x_0.2.1] ∧ Md (cov []) σ4 σ13 from hJ)
  clear hJ Hs
  rw [fr_lookL (L := [(2, (pt b3 0)), (4, (I x_0.1)), (7, (Sl a10 r7 c11)), (9, (I x_0.2.2))]) ⟨e2, e4, e7, e9, trivial⟩]
  clear hoff hrel e2 e4 e7 e9
  refine st (v := (.agg #[(I x_0.1), (Sl a10 r7 c11), (I x_0.2.2)])) (rv_build (ps := [(0, (I x_0.1)), (1, (Sl a10 r7 c11)), (2, (I x_0.2.2))]) Try.underlying36 ti36 (bp36 Try.underlying36) rfl (by kernel_rfl)) ?_
  refine st_exS (ex_store_box (k := 0) (cs := [(I 0), (.slice none 0 0), (I 0)]) (vs := [(I x_0.1), (Sl a10 r7 c11), (I x_0.2.2)]) (cs' := [(I x_0.1), (Sl a10 r7 c11), (I x_0.2.2)]) H (i := 1) rfl ti36 rfl rfl rfl rfl rfl (Nat.le_of_ble_eq_true rfl) (by simp [plain]) rfl) wn ?_
  rintro σ14 ⟨H, -⟩
  refine w_end ?_
  refine q_then ?_
  refine c_ret ?_
  obtain rfl := Option.some.inj h
  exact fin_ret (v := (.agg #[(I x_0.1), (Sl a10 r7 c11), (I x_0.2.2)])) (results_ok Try.results53 (res_cell rfl (run_cellRes (cs := [(I x_0.1), (Sl a10 r7 c11), (I x_0.2.2)]) Try.underlying36 rfl ti36 rfl (H.cells 0 rfl)) res_nil) rfl) ⟨a10, c11, rfl, rfl⟩ (H.sel' [1] rfl rfl)

theorem c_impl_putChange_entry {c_0 : (Int × (List Int) × Int)} {ac_0_0_1 : Option Addr} {cc_0_0_1 : Nat} {r : (Int × (Int × (List Int) × Int))} (h : M.impl_putChange_entry c_0 = some r) :
    Cal2 Try.prog 58 [(.agg #[(I c_0.1), (Sl ac_0_0_1 c_0.2.1 cc_0_0_1), (I c_0.2.2)])] [Ch.ro 0 (Sl ac_0_0_1 c_0.2.1 cc_0_0_1) c_0.2.1] (fun n0 v L => ∃ (az1 : Option Addr), ∃ (cz2 : Nat), v = (.agg #[(I r.1), (I r.2.1), (Sl az1 r.2.2.1 cz2), (I r.2.2.2)]) ∧ L = [Ch.own n0 n0 (Sl az1 r.2.2.1 cz2) r.2.2.1]) := by
 refine cal2 (n := 7) Try.func58 rfl rfl rfl rfl ?_
 intro S0 σ0 n0 hn0 H
 unfold M.impl_putChange_entry at h
 refine c_seq ?_
 refine rg ?_
 refine st_ex (ex_box (cs := [(I c_0.1), (Sl ac_0_0_1 c_0.2.1 cc_0_0_1), (I c_0.2.2)]) H hn0 rfl rfl) wn ?_
 rintro _ σ2 ⟨b1, rfl, H, -⟩
 refine st_ex (ex_alloc (cs := [(I 0), (I 0), (.slice none 0 0), (I 0)]) H hn0 ti38 rfl) wn ?_
 rintro _ σ4 ⟨b3, rfl, H, -⟩
 refine w_end ?_
 refine q_then ?_
 refine c_seq ?_
 refine rg ?_
 refine st (v := (pt b1 0)) (rv_fieldAddr (off := 0) (ft := 36) Try.underlying82 rfl ti36 rfl rfl) ?_
 have hc5 := H.part (us := [(I c_0.1), (Sl ac_0_0_1 c_0.2.1 cc_0_0_1), (I c_0.2.2)]) (o' := 0) 1 0 3 rfl rfl rfl rfl
 refine st (v := (.agg #[(I c_0.1), (Sl ac_0_0_1 c_0.2.1 cc_0_0_1), (I c_0.2.2)])) (rv_load (cs := [(I c_0.1), (Sl ac_0_0_1 c_0.2.1 cc_0_0_1), (I c_0.2.2)]) Try.underlying36 rfl ti36 rfl rfl hc5) ?_
 obtain ⟨r6, hx7, h'⟩ := bind_some h
 clear h
 have h := h'; clear h'
 have hc8 := c_impl_copyItem (ax_0_1 := ac_0_0_1) (cx_0_1 := cc_0_0_1) hx7
 refine st_call (cx_call hc8 (ent_f hc8.fn rfl) hn0 (show Hp S0 σ0 _ ([Ch.ro 0 (Sl ac_0_0_1 c_0.2.1 cc_0_0_1) c_0.2.1] ++ [Ch.bx n0 b3 0 [(I 0), (I 0), (.slice none 0 0), (I 0)] [] [], Ch.bx n0 b1 0 [(I c_0.1), (Sl ac_0_0_1 c_0.2.1 cc_0_0_1), (I c_0.2.2)] [] [], Ch.ro 0 (Sl ac_0_0_1 c_0.2.1 cc_0_0_1) c_0.2.1]) from (H.sel' [2, 0, 1, 2] rfl rfl))) wn ?_
 rintro _ σ11 ⟨_, ⟨a9, c10, rfl, rfl⟩, H, -⟩
 replace H : Hp S0 σ0 σ11 [Ch.own n0 n0 (Sl a9 r6.2.1 c10) r6.2.1, Ch.bx n0 b3 0 [(I 0), (I 0), (.slice none 0 0), (I 0)] [] [], Ch.bx n0 b1 0 [(I c_0.1), (Sl ac_0_0_1 c_0.2.1 cc_0_0_1), (I c_0.2.2)] [] [], Ch.ro 0 (Sl ac_0_0_1 c_0.2.1 cc_0_0_1) c_0.2.1] := H
 refine st (v := (.agg #[(I 1), (I r6.1), (Sl a9 r6.2.1 c10), (I r6.2.2)])) (rv_build (ps := [(0, (I 1)), (1, (.agg #[(I r6.1), (Sl a9 r6.2.1 c10), (I r6.2.2)]))]) Try.underlying38 ti38 (bp38 Try.underlying38) rfl (by kernel_rfl)) ?_
 refine st_exS (ex_store_box (k := 0) (cs := [(I 0), (I 0), (.slice none 0 0), (I 0)]) (vs := [(I 1), (I r6.1), (Sl a9 r6.2.1 c10), (I r6.2.2)]) (cs' := [(I 1), (I r6.1), (Sl a9 r6.2.1 c10), (I r6.2.2)]) H (i := 1) rfl ti38 rfl rfl rfl rfl rfl (Nat.le_of_ble_eq_true rfl) (by simp [plain]) rfl) wn ?_
 rintro σ12 ⟨H, -⟩
 refine w_end ?_
 refine q_then ?_
 refine c_ret ?_
 obtain rfl := Option.some.inj h
 exact fin_ret (v := (.agg #[(I 1), (I r6.1), (Sl a9 r6.2.1 c10), (I r6.2.2)])) (results_ok Try.results58 (res_cell rfl (run_cellRes (cs := [(I 1), (I r6.1), (Sl a9 r6.2.1 c10), (I r6.2.2)]) Try.underlying38 rfl ti38 rfl (H.cells 0 rfl)) res_nil) rfl) ⟨a9, c10, rfl, rfl⟩ (H.sel' [1] rfl rfl)

theorem c_impl_ShortLog {log_0 : List (Int × (Int × (List Int) × Int))} {alog_0 : Option Addr} {clog_0 : Nat} {r : (List (Int × (Int × (List Int) × Int)))} (h : M.impl_ShortLog log_0 = some r) :
    Cal2 Try.prog 26 [(Sl alog_0 log_0 clog_0)] [Ch.ro 0 (Sl alog_0 log_0 clog_0) log_0] (fun n0 v L => ∃ (az1 : Option Addr), ∃ (cz2 : Nat), v = (Sl az1 r cz2) ∧ L = [Ch.own n0 n0 (Sl az1 r cz2) r]) := by
 refine cal2 (n := 37) Try.func26 rfl rfl rfl rfl ?_
 intro S0 σ0 n0 hn0 H
 unfold M.impl_ShortLog at h
 refine c_seq ?_
 refine rg ?_
 refine st (v := (.slice none 0 0)) (rv_assign rfl) ?_
 refine w_end ?_
 refine q_then ?_
 refine c_seq ?_
 refine rg ?_
 refine st (v := (Sl alog_0 log_0 clog_0)) (rv_move rfl) ?_
 obtain ⟨r1, hx2, h'⟩ := bind_some h
 clear h
 have h := h'; clear h'
 have hc3 := c_impl_changesOf (alog_0 := alog_0) (clog_0 := clog_0) hx2
 refine st_call (cx_call hc3 (ent_f hc3.fn rfl) hn0 (show Hp S0 σ0 _ ([Ch.ro 0 (Sl alog_0 log_0 clog_0) log_0] ++ [Ch.ro 0 (Sl alog_0 log_0 clog_0) log_0]) from (H.sel' [0, 0] rfl rfl))) wn ?_
 rintro _ σ6 ⟨_, ⟨a4, c5, rfl, rfl⟩, H, -⟩
 replace H : Hp S0 σ0 σ6 [Ch.own n0 0 (Sl a4 r1.1 c5) r1.1, Ch.ro 0 (Sl alog_0 log_0 clog_0) log_0] := H
 refine st (v := (.tuple #[(Sl a4 r1.1 c5), (B r1.2)])) (rv_move rfl) ?_
 refine st (v := (Sl a4 r1.1 c5)) (rv_extract rfl rfl) ?_
 refine st (v := (B r1.2)) (rv_extract rfl rfl) ?_
 refine st (v := (Sl a4 r1.1 c5)) (rv_assign rfl) ?_
 refine st (v := (B r1.2)) (rv_assign rfl) ?_
 refine w_end ?_
 refine q_then ?_
 refine c_seq ?_
 refine c_seq ?_
 refine rg ?_
 refine st (v := (B r1.2)) (rv_move rfl) ?_
 refine st (v := (B (!r1.2))) (rv_not rfl) ?_
 refine w_end ?_
 refine q_then ?_
 refine cd_cond (!r1.2) rfl (fun hb7 => ?_) (fun hb7 => ?_)
 ·replace h := bif_t hb7 h
  refine c_seq ?_
  refine rg ?_
  refine st (v := (.slice none 0 0)) (rv_assign rfl) ?_
  refine w_end ?_
  refine q_then ?_
  refine c_ret ?_
  refine q_then_r ?_
  replace H := H.nilOwn (Int × (Int × (List Int) × Int)) n0 n0
  obtain rfl := Option.some.inj h
  exact fin_ret (v := (.slice none 0 0)) (results_ok Try.results26 (res_tmp (v := (.slice none 0 0)) rfl res_nil) rfl) ⟨none, 0, rfl, rfl⟩ (H.sel' [0] rfl rfl)
 ·replace h := bif_f hb7 h
  refine c_skip ?_
  refine q_then ?_
  refine c_seq ?_
  refine rg ?_
  refine st (v := (.slice none 0 0)) (rv_assign rfl) ?_
  refine w_end ?_
  refine q_then ?_
  refine c_seq ?_
  refine c_seq ?_
  refine rg ?_
  refine st (v := (Sl a4 r1.1 c5)) (rv_move rfl) ?_
  refine st (v := (I (r1.1.length : Int))) (rv_len Try.underlying58 rfl) ?_
  refine st (v := (I 0)) (rv_move rfl) ?_
  refine w_end ?_
  refine q_then ?_
  obtain ⟨o8, hj, h'⟩ := bind_some h
  clear h
  refine c_cut (fun e a w => e = .normal ∧ ∃ (ρ : Nat → Value) (σ : St) (aj1 : Option Addr) (cj2 : Nat), a = fr 37 (updL ρ [(5, (Sl aj1 o8 cj2))]) ∧ w = σ.w ∧ Hp S0 σ0 σ [Ch.own n0 n0 (Sl aj1 o8 cj2) o8]) ?_ ?_
  ·clear h'
   rename _ = some o8 => h
   refine c_blk ?_
   obtain ⟨σ10, hw11, H, -⟩ := H.pub 0 rfl (Nat.zero_le _)
   rw [← hw11]; clear hw11
   replace H := H.nilOwn (Int × (Int × (List Int) × Int)) n0 n0
   refine wp_loopM _ h (fun s9 a w => ∃ (ρ : Nat → Value) (σ : St) (aj1 : Option Addr) (cj2 : Nat), a = fr 37 (updL ρ [(3, (Sl a4 r1.1 c5)), (5, (Sl aj1 s9.1 cj2)), (15, (Sl a4 r1.1 c5)), (16, (I (r1.1.length : Int))), (17, (I s9.2))]) ∧ w = σ.w ∧ Hp S0 σ0 σ [Ch.ro 0 (Sl a4 r1.1 c5) r1.1, Ch.own n0 n0 (Sl aj1 s9.1 cj2) s9.1]) ⟨_, σ10, none, 0, fr_join ⟨rfl, rfl, rfl, rfl, rfl, trivial⟩, rfl, H.sel' [1, 0] rfl rfl⟩ ?_
   clear h H
   rintro s9 a w o ⟨ρ, σ12, a13, c14, rfl, rfl, H⟩ h hres
   refine c_seq ?_
   refine rg ?_
   refine st (v := (B (decide (s9.2 < (r1.1.length : Int))))) (rv_lss (a := s9.2) (b := (r1.1.length : Int)) rfl rfl) ?_
   refine w_end ?_
   refine q_then ?_
   refine c_seq ?_
   refine cd_cond (decide (s9.2 < (r1.1.length : Int))) rfl (fun hb15 => ?_) (fun hb15 => ?_)
   ·replace h := bif_t hb15 h
    refine c_skip ?_
    refine q_then ?_
    refine c_seq ?_
    obtain ⟨o16, hj, h'⟩ := bind_some h
    clear h
    refine c_cut (fun e a w => e = .normal ∧ ∃ (ρ : Nat → Value) (σ : St) (aj1 : Option Addr) (cj2 : Nat), a = fr 37 (updL ρ [(3, (Sl a4 r1.1 c5)), (5, (Sl aj1 o16 cj2)), (15, (Sl a4 r1.1 c5)), (16, (I (r1.1.length : Int))), (17, (I s9.2))]) ∧ w = σ.w ∧ Hp S0 σ0 σ [Ch.ro 0 (Sl a4 r1.1 c5) r1.1, Ch.own n0 n0 (Sl aj1 o16 cj2) o16]) ?_ ?_
    ·clear h'
     rename _ = some o16 => h
     refine c_blk ?_
     refine c_seq ?_
     refine rg ?_
     refine st (v := (I s9.2)) (rv_move rfl) ?_
     obtain ⟨x17, hx18, h'⟩ := bind_some h
     clear h
     have h := h'; clear h'
     obtain ⟨b20, o21, hi19, -⟩ := (H.ro 0 rfl).ix hx18
     refine st (v := (pt b20 o21)) (rv_ix Try.underlying58 ti65 rfl rfl hi19) ?_
     obtain ⟨_, ⟨_, _, rfl, ⟨_, _, rfl, rfl, ⟨_, _, rfl, ⟨_, rfl, hR27⟩, rfl⟩⟩, rfl⟩, hl22, hq23⟩ := ((H.ro 0 rfl).at hx18 hi19).cells
     obtain ⟨a25, c26, rfl⟩ := hR27.isSl
     have hc24 : HCell _ _ _ = some (ifs2 x17.1 (.iface 79 (.agg #[(I x17.2.1)])) (.iface 82 (.agg #[(I x17.2.2.1), (Sl a25 x17.2.2.2.1 c26), (I x17.2.2.2.2)]))) := hq23 0 Nat.zero_lt_one
     clear hq23
     replace H := H.add (d := Ch.ro 0 (Sl a25 x17.2.2.2.1 c26) x17.2.2.2.1) hR27 (fun _ h => h)
     clear hR27
     refine st (v := (ifs2 x17.1 (.iface 79 (.agg #[(I x17.2.1)])) (.iface 82 (.agg #[(I x17.2.2.1), (Sl a25 x17.2.2.2.1 c26), (I x17.2.2.2.2)])))) (rv_load1 Try.underlying65 rfl rfl hc24) ?_
     refine st (v := (I s9.2)) (rv_assign rfl) ?_
     refine st (v := (ifs2 x17.1 (.iface 79 (.agg #[(I x17.2.1)])) (.iface 82 (.agg #[(I x17.2.2.1), (Sl a25 x17.2.2.2.1 c26), (I x17.2.2.2.2)])))) (rv_assign rfl) ?_
     refine w_end ?_
     refine q_then ?_
     refine c_seq ?_
     obtain ⟨o28, hj, h'⟩ := bind_some h
     clear h
     refine c_cut (fun e a w => e = .normal ∧ ∃ (ρ : Nat → Value) (σ : St), a = fr 37 (updL ρ [(3, (Sl a4 r1.1 c5)), (5, (Sl a13 s9.1 c14)), (7, (ifs2 x17.1 (.iface 79 (.agg #[(I x17.2.1)])) (.iface 82 (.agg #[(I x17.2.2.1), (Sl a25 x17.2.2.2.1 c26), (I x17.2.2.2.2)])))), (15, (Sl a4 r1.1 c5)), (16, (I (r1.1.length : Int))), (17, (I s9.2)), (29, (B o28))]) ∧ w = σ.w ∧ Hp S0 σ0 σ [Ch.ro 0 (Sl a4 r1.1 c5) r1.1, Ch.own n0 n0 (Sl a13 s9.1 c14) s9.1, Ch.ro 0 (Sl a25 x17.2.2.2.1 c26) x17.2.2.2.1]) ?_ ?_
     ·clear h'
      rename _ = some o28 => h
      obtain ⟨xs29, hx30, h'⟩ := bind_some h
      clear h
      have h := h'; clear h'
      obtain ⟨a31, c32, hs33, hR34⟩ := (H.ro 1 rfl).slice hx30
      replace H := H.add (d := Ch.ro 0 (Sl a31 xs29 c32) xs29) hR34 (fun _ h => h)
      clear hR34
      rcases Bool.eq_false_or_eq_true (x17.1 == 1) with hb35 | hb35
      ·replace h := bif_t hb35 h
       have hv37 : (ifs2 x17.1 (.iface 79 (.agg #[(I x17.2.1)])) (.iface 82 (.agg #[(I x17.2.2.1), (Sl a25 x17.2.2.2.1 c26), (I x17.2.2.2.2)]))) = (.iface 79 (.agg #[(I x17.2.1)]) : Value) := ct hb35
       obtain ⟨r38, hx39, h'⟩ := bind_some h
       clear h
       have h := h'; clear h'
       have hc40 := c_impl_dropChange_key hx39
       have Hs := H
       refine rg2 (σ := σ12) (Nm := Unit) 6 [5] [[false], [true]] [[(0, 0), (1, 1)], [(0, 0), (1, 1)], [(0, 0), (1, 1)], [(0, 0), (1, 1)], [(0, 0)], [(0, 1)]] 1 [fun _ => fun σm => Hp S0 σ0 σm [Ch.ro 0 (Sl a31 xs29 c32) xs29, Ch.ro 0 (Sl a25 x17.2.2.2.1 c26) x17.2.2.2.1, Ch.ro 0 (Sl a4 r1.1 c5) r1.1, Ch.own n0 n0 (Sl a13 s9.1 c14) s9.1] ∧ Md (cov []) σ12 σm, fun _ => fun σm => Hp S0 σ0 σm [Ch.ro 0 (Sl a31 xs29 c32) xs29, Ch.ro 0 (Sl a25 x17.2.2.2.1 c26) x17.2.2.2.1, Ch.ro 0 (Sl a4 r1.1 c5) r1.1, Ch.own n0 n0 (Sl a13 s9.1 c14) s9.1] ∧ Md (cov []) σ12 σm] [fun _ => (Sl a4 r1.1 c5), fun _ => (I s9.2), fun _ => (I (w64 (s9.2 + 1))), fun _ => (Sl a31 xs29 c32), fun _ => (ifs2 x17.1 (.iface 79 (.agg #[(I x17.2.1)])) (.iface 82 (.agg #[(I x17.2.2.1), (Sl a25 x17.2.2.2.1 c26), (I x17.2.2.2.2)]))), fun _ => (I r38)] () (by kernel_rfl) (by kernel_rfl) ?_ ?_ ?_
       ·intro σm m0
        exact ⟨H.grow (m0.mono fun _ h => h.elim), m0⟩
       ·refine ac rfl (by
          intro k _nm ρ σm hJ hoff hdep
          have e3 := look_off (N := 37) (hoff 3 rfl) rfl
          exact dp_v (v := (Sl a4 r1.1 c5)) wn (rv_move e3) rfl hJ) ?_
        refine ac rfl (by
          intro k _nm ρ σm hJ hoff hdep
          have e6 := look_off (N := 37) (hoff 6 rfl) rfl
          exact dp_v (v := (I s9.2)) wn (rv_move e6) rfl hJ) ?_
        refine ac rfl (by
          intro k _nm ρ σm hJ hoff hdep
          have e23 := hdep 1 rfl rfl 23 rfl
          exact dp_v (v := (I (w64 (s9.2 + 1)))) wn (rv_add (a := s9.2) (b := 1) e23 rfl) rfl hJ) ?_
        refine ac rfl (by
          intro k _nm ρ σm hJ hoff hdep
          have e22 := hdep 0 rfl rfl 22 rfl
          have e24 := hdep 2 rfl rfl 24 rfl
          exact dp_v (v := (Sl a31 xs29 c32)) wn (rv_slice_l Try.underlying58 ti65 hs33 e22 e24) rfl hJ) ?_
        refine ac rfl (by
          intro k _nm ρ σm hJ hoff hdep
          have e7 := look_off (N := 37) (hoff 7 rfl) rfl
          exact dp_v (v := (ifs2 x17.1 (.iface 79 (.agg #[(I x17.2.1)])) (.iface 82 (.agg #[(I x17.2.2.1), (Sl a25 x17.2.2.2.1 c26), (I x17.2.2.2.2)])))) wn (rv_move e7) rfl hJ) ?_
        refine all_cons (by
          refine ⟨?_, ?_⟩
          ·intro _nm ρ σm hJ hoff hdep
           have e26 := hdep 4 rfl rfl 26 rfl
           obtain ⟨H, m⟩ := id hJ
           refine dp_cx wn (cx_call hc40 ((by exact ent_ix hc40.fn (by kernel_rfl) Try.underlying79 rfl (e26.trans hv37) rfl)) hn0 (show Hp S0 σ0 _ ([] ++ [Ch.ro 0 (Sl a31 xs29 c32) xs29, Ch.ro 0 (Sl a25 x17.2.2.2.1 c26) x17.2.2.2.1, Ch.ro 0 (Sl a4 r1.1 c5) r1.1, Ch.own n0 n0 (Sl a13 s9.1 c14) s9.1]) from (H.sel' [0, 1, 2, 3] rfl rfl))) ?_
           rintro _ σq ⟨_, ⟨rfl, rfl⟩, H2, m2⟩
           exact ⟨_, (), rfl, rfl, ⟨H2.sel' [0, 1, 2, 3] rfl rfl, m.comp0 m2⟩, stab [0, 1, 2, 3, 4] (by kernel_rfl) ⟨rfl, rfl, rfl, rfl, rfl, trivial⟩⟩
          trivial) ?_
        exact all_nil
       ·intro _nm ρ σ41 hJ hoff hrel
        have e3 := look_off (N := 37) (hoff 3 rfl) rfl
        have e5 := look_off (N := 37) (hoff 5 rfl) rfl
        have e7 := look_off (N := 37) (hoff 7 rfl) rfl
        have e15 := look_off (N := 37) (hoff 15 rfl) rfl
        have e16 := look_off (N := 37) (hoff 16 rfl) rfl
        have e17 := look_off (N := 37) (hoff 17 rfl) rfl
        have e25 := hrel 3 rfl 25 rfl
        have e27 := hrel 5 rfl 27 rfl
        obtain ⟨H, -⟩ := (show Hp S0 σ0 σ41 [Ch.ro 0 (Sl a31 xs29 c32) xs29, Ch.ro 0 (Sl a25 x17.2.2.2.1 c26) x17.2.2.2.1, Ch.ro 0 (Sl a4 r1.1 c5) r1.1, Ch.own n0 n0 (Sl a13 s9.1 c14) s9.1] ∧ Md (cov []) σ12 σ41 from hJ)
        clear hJ Hs
        rw [fr_lookL (L := [(3, (Sl a4 r1.1 c5)), (5, (Sl a13 s9.1 c14)), (7, (ifs2 x17.1 (.iface 79 (.agg #[(I x17.2.1)])) (.iface 82 (.agg #[(I x17.2.2.1), (Sl a25 x17.2.2.2.1 c26), (I x17.2.2.2.2)])))), (15, (Sl a4 r1.1 c5)), (16, (I (r1.1.length : Int))), (17, (I s9.2)), (25, (Sl a31 xs29 c32)), (27, (I r38))]) ⟨e3, e5, e7, e15, e16, e17, e25, e27, trivial⟩]
        clear hoff hrel e3 e5 e7 e15 e16 e17 e25 e27
        obtain ⟨r42, hx43, h'⟩ := bind_some h
        clear h
        have h := h'; clear h'
        have hc44 := c_impl_changeKey (achanges_0 := a31) (cchanges_0 := c32) hx43
        refine st_call (cx_call hc44 (ent_f hc44.fn rfl) hn0 (show Hp S0 σ0 _ ([Ch.ro 0 (Sl a31 xs29 c32) xs29] ++ [Ch.ro 0 (Sl a31 xs29 c32) xs29, Ch.ro 0 (Sl a25 x17.2.2.2.1 c26) x17.2.2.2.1, Ch.ro 0 (Sl a4 r1.1 c5) r1.1, Ch.own n0 n0 (Sl a13 s9.1 c14) s9.1]) from (H.sel' [0, 0, 1, 2, 3] rfl rfl))) wn ?_
        rintro _ σ45 ⟨_, ⟨rfl, rfl⟩, H, -⟩
        replace H : Hp S0 σ0 σ45 [Ch.ro 0 (Sl a31 xs29 c32) xs29, Ch.ro 0 (Sl a25 x17.2.2.2.1 c26) x17.2.2.2.1, Ch.ro 0 (Sl a4 r1.1 c5) r1.1, Ch.own n0 n0 (Sl a13 s9.1 c14) s9.1] := H
        refine st (v := (B (!r42))) (rv_not rfl) ?_
        refine w_end ?_
        obtain rfl := Option.some.inj h
        exact ⟨rfl, _, σ45, fr_join ⟨rfl, rfl, rfl, rfl, rfl, rfl, rfl, trivial⟩, rfl, H.sel' [2, 3, 1] rfl rfl⟩
      ·replace h := bif_f hb35 h
       rcases Bool.eq_false_or_eq_true (x17.1 == 2) with hb36 | hb36
       ·replace h := bif_t hb36 h
        have hv46 : (ifs2 x17.1 (.iface 79 (.agg #[(I x17.2.1)])) (.iface 82 (.agg #[(I x17.2.2.1), (Sl a25 x17.2.2.2.1 c26), (I x17.2.2.2.2)]))) = (.iface 82 (.agg #[(I x17.2.2.1), (Sl a25 x17.2.2.2.1 c26), (I x17.2.2.2.2)]) : Value) := (cf hb35).trans (ct hb36)
        obtain ⟨r47, hx48, h'⟩ := bind_some h
        clear h
        have h := h'; clear h'
        have hc49 := c_impl_putChange_key (ac_0_0_1 := a25) (cc_0_0_1 := c26) hx48
        have Hs := H
        refine rg2 (σ := σ12) (Nm := Unit) 6 [5] [[false], [true]] [[(0, 0), (1, 1)], [(0, 0), (1, 1)], [(0, 0), (1, 1)], [(0, 0), (1, 1)], [(0, 0)], [(0, 1)]] 1 [fun _ => fun σm => Hp S0 σ0 σm [Ch.ro 0 (Sl a31 xs29 c32) xs29, Ch.ro 0 (Sl a25 x17.2.2.2.1 c26) x17.2.2.2.1, Ch.ro 0 (Sl a4 r1.1 c5) r1.1, Ch.own n0 n0 (Sl a13 s9.1 c14) s9.1] ∧ Md (cov []) σ12 σm, fun _ => fun σm => Hp S0 σ0 σm [Ch.ro 0 (Sl a31 xs29 c32) xs29, Ch.ro 0 (Sl a25 x17.2.2.2.1 c26) x17.2.2.2.1, Ch.ro 0 (Sl a4 r1.1 c5) r1.1, Ch.own n0 n0 (Sl a13 s9.1 c14) s9.1] ∧ Md (cov []) σ12 σm] [fun _ => (Sl a4 r1.1 c5), fun _ => (I s9.2), fun _ => (I (w64 (s9.2 + 1))), fun _ => (Sl a31 xs29 c32), fun _ => (ifs2 x17.1 (.iface 79 (.agg #[(I x17.2.1)])) (.iface 82 (.agg #[(I x17.2.2.1), (Sl a25 x17.2.2.2.1 c26), (I x17.2.2.2.2)]))), fun _ => (I r47)] () (by kernel_rfl) (by kernel_rfl) ?_ ?_ ?_
        ·intro σm m0
         exact ⟨H.grow (m0.mono fun _ h => h.elim), m0⟩
        ·refine ac rfl (by
           intro k _nm ρ σm hJ hoff hdep
           have e3 := look_off (N := 37) (hoff 3 rfl) rfl
           exact dp_v (v := (Sl a4 r1.1 c5)) wn (rv_move e3) rfl hJ) ?_
         refine ac rfl (by
           intro k _nm ρ σm hJ hoff hdep
           have e6 := look_off (N := 37) (hoff 6 rfl) rfl
           exact dp_v (v := (I s9.2)) wn (rv_move e6) rfl hJ) ?_
         refine ac rfl (by
           intro k _nm ρ σm hJ hoff hdep
           have e23 := hdep 1 rfl rfl 23 rfl
           exact dp_v (v := (I (w64 (s9.2 + 1)))) wn (rv_add (a := s9.2) (b := 1) e23 rfl) rfl hJ) ?_
         refine ac rfl (by
           intro k _nm ρ σm hJ hoff hdep
           have e22 := hdep 0 rfl rfl 22 rfl
           have e24 := hdep 2 rfl rfl 24 rfl
           exact dp_v (v := (Sl a31 xs29 c32)) wn (rv_slice_l Try.underlying58 ti65 hs33 e22 e24) rfl hJ) ?_
         refine ac rfl (by
           intro k _nm ρ σm hJ hoff hdep
           have e7 := look_off (N := 37) (hoff 7 rfl) rfl
           exact dp_v (v := (ifs2 x17.1 (.iface 79 (.agg #[(I x17.2.1)])) (.iface 82 (.agg #[(I x17.2.2.1), (Sl a25 x17.2.2.2.1 c26), (I x17.2.2.2.2)])))) wn (rv_move e7) rfl hJ) ?_
         refine all_cons (by
           refine ⟨?_, ?_⟩
           ·intro _nm ρ σm hJ hoff hdep
            have e26 := hdep 4 rfl rfl 26 rfl
            obtain ⟨H, m⟩ := id hJ
            refine dp_cx wn (cx_call hc49 ((by exact ent_ix hc49.fn (by kernel_rfl) Try.underlying82 rfl (e26.trans hv46) rfl)) hn0 (show Hp S0 σ0 _ ([Ch.ro 0 (Sl a25 x17.2.2.2.1 c26) x17.2.2.2.1] ++ [Ch.ro 0 (Sl a31 xs29 c32) xs29, Ch.ro 0 (Sl a25 x17.2.2.2.1 c26) x17.2.2.2.1, Ch.ro 0 (Sl a4 r1.1 c5) r1.1, Ch.own n0 n0 (Sl a13 s9.1 c14) s9.1]) from (H.sel' [1, 0, 1, 2, 3] rfl rfl))) ?_
            rintro _ σq ⟨_, ⟨rfl, rfl⟩, H2, m2⟩
            exact ⟨_, (), rfl, rfl, ⟨H2.sel' [0, 1, 2, 3] rfl rfl, m.comp0 (m2.mono (fun i h => by simp [cov, Ch.ro] at h))⟩, stab [0, 1, 2, 3, 4] (by kernel_rfl) ⟨rfl, rfl, rfl, rfl, rfl, trivial⟩⟩
           trivial) ?_
         exact all_nil
        ·intro _nm ρ σ50 hJ hoff hrel
         have e3 := look_off (N := 37) (hoff 3 rfl) rfl
         have e5 := look_off (N := 37) (hoff 5 rfl) rfl
         have e7 := look_off (N := 37) (hoff 7 rfl) rfl
         have e15 := look_off (N := 37) (hoff 15 rfl) rfl
         have e16 := look_off (N := 37) (hoff 16 rfl) rfl
         have e17 := look_off (N := 37) (hoff 17 rfl) rfl
         have e25 := hrel 3 rfl 25 rfl
         have e27 := hrel 5 rfl 27 rfl
         obtain ⟨H, -⟩ := (show Hp S0 σ0 σ50 [Ch.ro 0 (Sl a31 xs29 c32) xs29, Ch.ro 0 (Sl a25 x17.2.2.2.1 c26) x17.2.2.2.1, Ch.ro 0 (Sl a4 r1.1 c5) r1.1, Ch.own n0 n0 (Sl a13 s9.1 c14) s9.1] ∧ Md (cov []) σ12 σ50 from hJ)
         clear hJ Hs
         rw [fr_lookL (L := [(3, (Sl a4 r1.1 c5)), (5, (Sl a13 s9.1 c14)), (7, (ifs2 x17.1 (.iface 79 (.agg #[(I x17.2.1)])) (.iface 82 (.agg #[(I x17.2.2.1), (Sl a25 x17.2.2.2.1 c26), (I x17.2.2.2.2)])))), (15, (Sl a4 r1.1 c5)), (16, (I (r1.1.length : Int))), (17, (I s9.2)), (25, (Sl a31 xs29 c32)), (27, (I r47))]) ⟨e3, e5, e7, e15, e16, e17, e25, e27, trivial⟩]
         clear hoff hrel e3 e5 e7 e15 e16 e17 e25 e27
         obtain ⟨r51, hx52, h'⟩ := bind_some h
         clear h
         have h := h'; clear h'
         have hc53 := c_impl_changeKey (achanges_0 := a31) (cchanges_0 := c32) hx52
         refine st_call (cx_call hc53 (ent_f hc53.fn rfl) hn0 (show Hp S0 σ0 _ ([Ch.ro 0 (Sl a31 xs29 c32) xs29] ++ [Ch.ro 0 (Sl a31 xs29 c32) xs29, Ch.ro 0 (Sl a25 x17.2.2.2.1 c26) x17.2.2.2.1, Ch.ro 0 (Sl a4 r1.1 c5) r1.1, Ch.own n0 n0 (Sl a13 s9.1 c14) s9.1]) from (H.sel' [0, 0, 1, 2, 3] rfl rfl))) wn ?_
         rintro _ σ54 ⟨_, ⟨rfl, rfl⟩, H, -⟩
         replace H : Hp S0 σ0 σ54 [Ch.ro 0 (Sl a31 xs29 c32) xs29, Ch.ro 0 (Sl a25 x17.2.2.2.1 c26) x17.2.2.2.1, Ch.ro 0 (Sl a4 r1.1 c5) r1.1, Ch.own n0 n0 (Sl a13 s9.1 c14) s9.1] := H
         refine st (v := (B (!r51))) (rv_not rfl) ?_
         refine w_end ?_
         obtain rfl := Option.some.inj h
         exact ⟨rfl, _, σ54, fr_join ⟨rfl, rfl, rfl, rfl, rfl, rfl, rfl, trivial⟩, rfl, H.sel' [2, 3, 1] rfl rfl⟩
       ·replace h := bif_f hb36 h
        cases h
     ·clear hj
      have h := h'
      clear h' H
      rintro e a w ⟨rfl, ρ, σ56, rfl, rfl, H⟩
      refine q_then ?_
      refine cd_cond o28 rfl (fun hb57 => ?_) (fun hb57 => ?_)
      ·replace h := bif_t hb57 h
       refine rg ?_
       refine st (v := (Sl a13 s9.1 c14)) (rv_move rfl) ?_
       refine st (v := (ifs2 x17.1 (.iface 79 (.agg #[(I x17.2.1)])) (.iface 82 (.agg #[(I x17.2.2.1), (Sl a25 x17.2.2.2.1 c26), (I x17.2.2.2.2)])))) (rv_move rfl) ?_
       rcases Bool.eq_false_or_eq_true (x17.1 == 1) with hb58 | hb58
       ·replace h := bif_t hb58 h
        have hv60 : (ifs2 x17.1 (.iface 79 (.agg #[(I x17.2.1)])) (.iface 82 (.agg #[(I x17.2.2.1), (Sl a25 x17.2.2.2.1 c26), (I x17.2.2.2.2)]))) = (.iface 79 (.agg #[(I x17.2.1)]) : Value) := ct hb58
        obtain ⟨r61, hx62, h'⟩ := bind_some h
        clear h
        have h := h'; clear h'
        have hc63 := c_impl_dropChange_entry hx62
        refine st_call (cx_call hc63 ((by exact ent_ix hc63.fn (by kernel_rfl) Try.underlying79 rfl hv60 rfl)) hn0 (show Hp S0 σ0 _ ([] ++ [Ch.ro 0 (Sl a4 r1.1 c5) r1.1, Ch.own n0 n0 (Sl a13 s9.1 c14) s9.1, Ch.ro 0 (Sl a25 x17.2.2.2.1 c26) x17.2.2.2.1]) from (H.sel' [0, 1, 2] rfl rfl))) wn ?_
        rintro _ σ64 ⟨_, ⟨rfl, rfl⟩, H, -⟩
        replace H : Hp S0 σ0 σ64 [Ch.ro 0 (Sl a4 r1.1 c5) r1.1, Ch.own n0 n0 (Sl a13 s9.1 c14) s9.1, Ch.ro 0 (Sl a25 x17.2.2.2.1 c26) x17.2.2.2.1] := H
        refine st_ex (ex_buildSlice (el := n0) (xs := ([(r61.1, (r61.2.1, [], r61.2.2.2))] : List (Int × (Int × (List Int) × Int)))) (ps := [(0, (.agg #[(I r61.1), (I r61.2.1), (.slice none 0 0), (I r61.2.2.2)]))]) (cs := [(I r61.1), (I r61.2.1), (.slice none 0 0), (I r61.2.2.2)]) H hn0 Try.underlying23 ti38 rfl rfl (by kernel_rfl) (.cons (c := [(I r61.1), (I r61.2.1), (.slice none 0 0), (I r61.2.2.2)]) ⟨[(I r61.1)], [(I r61.2.1), (.slice none 0 0), (I r61.2.2.2)], rfl, rfl, ⟨[(I r61.2.1)], [(.slice none 0 0), (I r61.2.2.2)], rfl, rfl, ⟨[(.slice none 0 0)], [(I r61.2.2.2)], rfl, ⟨_, rfl, RS.nil⟩, rfl⟩⟩⟩ (.nil)) rfl) wn ?_
        rintro _ σ66 ⟨b65, rfl, H, -⟩
        obtain ⟨xs67, hx68, h'⟩ := bind_some h
        clear h
        have h := h'; clear h'
        refine st_ex (ex_append H (i := 2) rfl Try.underlying23 Try.underlying23 ti38 rfl rfl (by decide) (H.own 0 rfl).rd hx68 hn0 rfl rfl) wn ?_
        rintro _ σ71 ⟨a69, c70, rfl, H, -⟩
        refine st (v := (Sl a69 xs67 c70)) (rv_assign rfl) ?_
        refine w_end ?_
        refine q_blk ?_
        obtain rfl := Option.some.inj h
        exact ⟨rfl, _, σ71, a69, c70, fr_join ⟨rfl, rfl, rfl, rfl, rfl, trivial⟩, rfl, H.sel' [2, 0] rfl rfl⟩
       ·replace h := bif_f hb58 h
        rcases Bool.eq_false_or_eq_true (x17.1 == 2) with hb59 | hb59
        ·replace h := bif_t hb59 h
         have hv72 : (ifs2 x17.1 (.iface 79 (.agg #[(I x17.2.1)])) (.iface 82 (.agg #[(I x17.2.2.1), (Sl a25 x17.2.2.2.1 c26), (I x17.2.2.2.2)]))) = (.iface 82 (.agg #[(I x17.2.2.1), (Sl a25 x17.2.2.2.1 c26), (I x17.2.2.2.2)]) : Value) := (cf hb58).trans (ct hb59)
         obtain ⟨r73, hx74, h'⟩ := bind_some h
         clear h
         have h := h'; clear h'
         have hc75 := c_impl_putChange_entry (ac_0_0_1 := a25) (cc_0_0_1 := c26) hx74
         refine st_call (cx_call hc75 ((by exact ent_ix hc75.fn (by kernel_rfl) Try.underlying82 rfl hv72 rfl)) hn0 (show Hp S0 σ0 _ ([Ch.ro 0 (Sl a25 x17.2.2.2.1 c26) x17.2.2.2.1] ++ [Ch.ro 0 (Sl a4 r1.1 c5) r1.1, Ch.own n0 n0 (Sl a13 s9.1 c14) s9.1, Ch.ro 0 (Sl a25 x17.2.2.2.1 c26) x17.2.2.2.1]) from (H.sel' [2, 0, 1, 2] rfl rfl))) wn ?_
         rintro _ σ78 ⟨_, ⟨a76, c77, rfl, rfl⟩, H, -⟩
         replace H : Hp S0 σ0 σ78 [Ch.own n0 n0 (Sl a76 r73.2.2.1 c77) r73.2.2.1, Ch.ro 0 (Sl a4 r1.1 c5) r1.1, Ch.own n0 n0 (Sl a13 s9.1 c14) s9.1, Ch.ro 0 (Sl a25 x17.2.2.2.1 c26) x17.2.2.2.1] := H
         obtain ⟨σ79, hw80, H, -⟩ := H.pub 0 rfl (Nat.le_refl _)
         rw [← hw80]; clear hw80
         refine st_ex (ex_buildSlice (el := n0) (xs := ([(r73.1, (r73.2.1, r73.2.2.1, r73.2.2.2))] : List (Int × (Int × (List Int) × Int)))) (ps := [(0, (.agg #[(I r73.1), (I r73.2.1), (Sl a76 r73.2.2.1 c77), (I r73.2.2.2)]))]) (cs := [(I r73.1), (I r73.2.1), (Sl a76 r73.2.2.1 c77), (I r73.2.2.2)]) H hn0 Try.underlying23 ti38 rfl rfl (by kernel_rfl) (.cons (c := [(I r73.1), (I r73.2.1), (Sl a76 r73.2.2.1 c77), (I r73.2.2.2)]) ⟨[(I r73.1)], [(I r73.2.1), (Sl a76 r73.2.2.1 c77), (I r73.2.2.2)], rfl, rfl, ⟨[(I r73.2.1)], [(Sl a76 r73.2.2.1 c77), (I r73.2.2.2)], rfl, rfl, ⟨[(Sl a76 r73.2.2.1 c77)], [(I r73.2.2.2)], rfl, ⟨_, rfl, (H.ro 0 rfl)⟩, rfl⟩⟩⟩ (.nil)) rfl) wn ?_
         rintro _ σ82 ⟨b81, rfl, H, -⟩
         obtain ⟨xs83, hx84, h'⟩ := bind_some h
         clear h
         have h := h'; clear h'
         refine st_ex (ex_append H (i := 3) rfl Try.underlying23 Try.underlying23 ti38 rfl rfl (by decide) (H.own 0 rfl).rd hx84 hn0 rfl rfl) wn ?_
         rintro _ σ87 ⟨a85, c86, rfl, H, -⟩
         refine st (v := (Sl a85 xs83 c86)) (rv_assign rfl) ?_
         refine w_end ?_
         refine q_blk ?_
         obtain rfl := Option.some.inj h
         exact ⟨rfl, _, σ87, a85, c86, fr_join ⟨rfl, rfl, rfl, rfl, rfl, trivial⟩, rfl, H.sel' [3, 0] rfl rfl⟩
        ·replace h := bif_f hb59 h
         cases h
      ·replace h := bif_f hb57 h
       refine c_skip ?_
       refine q_blk ?_
       obtain rfl := Option.some.inj h
       exact ⟨rfl, _, σ56, a13, c14, fr_join ⟨rfl, rfl, rfl, rfl, rfl, trivial⟩, rfl, H.sel' [0, 1] rfl rfl⟩
    ·clear hj
     have h := h'
     clear h' H
     rintro e a w ⟨rfl, ρ, σ89, a90, c91, rfl, rfl, H⟩
     refine q_then ?_
     refine rg ?_
     refine st (v := (I (w64 (s9.2 + 1)))) (rv_add (a := s9.2) (b := 1) rfl rfl) ?_
     refine st (v := (I (w64 (s9.2 + 1)))) (rv_move rfl) ?_
     refine w_end ?_
     refine q_then ?_
     obtain rfl := Option.some.inj h
     exact ⟨_, rfl, _, σ89, a90, c91, fr_join ⟨rfl, rfl, rfl, rfl, rfl, trivial⟩, rfl, H.sel' [0, 1] rfl rfl⟩
   ·replace h := bif_f hb15 h
    refine c_exit ?_
    refine q_then_x ?_
    refine q_then_x ?_
    refine q_blk_hit ?_
    obtain rfl := Option.some.inj h
    obtain rfl := hres _ rfl
    exact ⟨rfl, _, σ12, a13, c14, fr_join ⟨rfl, trivial⟩, rfl, H.sel' [1] rfl rfl⟩
  ·clear hj
   have h := h'
   clear h' H
   rintro e a w ⟨rfl, ρ, σ92, a93, c94, rfl, rfl, H⟩
   refine q_then ?_
   refine c_seq ?_
   refine rg ?_
   refine st (v := (Sl a93 o8 c94)) (rv_move rfl) ?_
   refine st (v := (Sl a93 o8 c94)) (rv_assign rfl) ?_
   refine w_end ?_
   refine q_then ?_
   refine c_ret ?_
   obtain rfl := Option.some.inj h
   exact fin_ret (v := (Sl a93 o8 c94)) (results_ok Try.results26 (res_tmp (v := (Sl a93 o8 c94)) rfl res_nil) rfl) ⟨a93, c94, rfl, rfl⟩ (H.sel' [0] rfl rfl)

theorem c_laws_equalInts {a_0 : List Int} {b_1 : List Int} {aa_0 : Option Addr} {ca_0 : Nat} {ab_1 : Option Addr} {cb_1 : Nat} {r : Bool} (h : M.laws_equalInts a_0 b_1 = some r) :
    Cal2 Try.prog 50 [(Sl aa_0 a_0 ca_0), (Sl ab_1 b_1 cb_1)] [Ch.ro 0 (Sl aa_0 a_0 ca_0) a_0, Ch.ro 0 (Sl ab_1 b_1 cb_1) b_1] (fun n0 v L => v = (B r) ∧ L = []) := by
 refine cal2 (n := 26) Try.func50 rfl rfl rfl rfl ?_
 intro S0 σ0 n0 hn0 H
 unfold M.laws_equalInts at h
 refine c_seq ?_
 refine rg ?_
 refine st (v := (B false)) (rv_assign rfl) ?_
 refine w_end ?_
 refine q_then ?_
 refine c_seq ?_
 refine c_seq ?_
 refine rg ?_
 refine st (v := (Sl aa_0 a_0 ca_0)) (rv_move rfl) ?_
 refine st (v := (I (a_0.length : Int))) (rv_len Try.underlying34 rfl) ?_
 refine st (v := (Sl ab_1 b_1 cb_1)) (rv_move rfl) ?_
 refine st (v := (I (b_1.length : Int))) (rv_len Try.underlying34 rfl) ?_
 refine st (v := (B ((a_0.length : Int) != (b_1.length : Int)))) (rv_neq (a := (a_0.length : Int)) (b := (b_1.length : Int)) rfl rfl) ?_
 refine w_end ?_
 refine q_then ?_
 refine cd_cond ((a_0.length : Int) != (b_1.length : Int)) rfl (fun hb1 => ?_) (fun hb1 => ?_)
 ·replace h := bif_t hb1 h
  refine c_seq ?_
  refine rg ?_
  refine st (v := (B false)) (rv_assign rfl) ?_
  refine w_end ?_
  refine q_then ?_
  refine c_ret ?_
  refine q_then_r ?_
  obtain rfl := Option.some.inj h
  exact fin_ret (v := (B false)) (results_ok Try.results50 (res_tmp (v := (B false)) rfl res_nil) rfl) ⟨rfl, rfl⟩ (H.sel' [] rfl rfl)
 ·replace h := bif_f hb1 h
  refine c_skip ?_
  refine q_then ?_
  refine c_seq ?_
  refine c_seq ?_
  refine rg ?_
  refine st (v := (I 0)) (rv_assign rfl) ?_
  refine w_end ?_
  refine q_then ?_
  obtain ⟨o2, hj, h'⟩ := bind_some h
  clear h
  refine c_cut (fun e a w => (∃ t, o2 = (.inl t) ∧ e = .normal ∧ ∃ (ρ : Nat → Value) (σ : St), a = fr 26 (updL ρ []) ∧ w = σ.w ∧ Hp S0 σ0 σ []) ∨ (∃ t, o2 = (.inr t) ∧ e = .ret ∧ ∃ (ρ : Nat → Value) (σ : St), a = fr 26 (updL ρ [(4, (B t))]) ∧ w = σ.w ∧ Hp S0 σ0 σ [])) ?_ ?_
  ·clear h'
   rename _ = some o2 => h
   refine c_blk ?_
   refine wp_loopM _ h (fun s3 a w => ∃ (ρ : Nat → Value) (σ : St), a = fr 26 (updL ρ [(0, (Sl aa_0 a_0 ca_0)), (1, (Sl ab_1 b_1 cb_1)), (5, (I s3))]) ∧ w = σ.w ∧ Hp S0 σ0 σ [Ch.ro 0 (Sl aa_0 a_0 ca_0) a_0, Ch.ro 0 (Sl ab_1 b_1 cb_1) b_1]) ⟨_, σ0, fr_join ⟨rfl, rfl, rfl, trivial⟩, rfl, H.sel' [0, 1] rfl rfl⟩ ?_
   clear h H
   rintro s3 a w o ⟨ρ, σ4, rfl, rfl, H⟩ h hres
   refine c_seq ?_
   refine c_seq ?_
   refine rg ?_
   refine st (v := (I s3)) (rv_move rfl) ?_
   refine st (v := (Sl aa_0 a_0 ca_0)) (rv_move rfl) ?_
   refine st (v := (I (a_0.length : Int))) (rv_len Try.underlying34 rfl) ?_
   refine st (v := (B (decide (s3 < (a_0.length : Int))))) (rv_lss (a := s3) (b := (a_0.length : Int)) rfl rfl) ?_
   refine w_end ?_
   refine q_then ?_
   refine cd_cond (decide (s3 < (a_0.length : Int))) rfl (fun hb5 => ?_) (fun hb5 => ?_)
   ·replace h := bif_t hb5 h
    refine c_skip ?_
    refine q_then ?_
    refine c_seq ?_
    refine c_blk ?_
    refine c_seq ?_
    refine rgP (σ := σ4) 8 (by kernel_rfl) (by kernel_rfl) (by kernel_rfl) ?_
    refine sq (v := (Sl aa_0 a_0 ca_0)) (rv_move rfl) ?_
    refine sq (v := (I s3)) (rv_move rfl) ?_
    obtain ⟨x6, hx7, h'⟩ := bind_some h
    clear h
    have h := h'; clear h'
    obtain ⟨b9, o10, hi8, -⟩ := (H.ro 0 rfl).ix hx7
    refine sq (v := (pt b9 o10)) (rv_ix Try.underlying34 ti3 rfl rfl hi8) ?_
    have hc11 := ((H.ro 0 rfl).at hx7 hi8).int
    refine sq (v := (I x6)) (rv_load1 Try.underlying3 rfl rfl hc11) ?_
    refine sq (v := (Sl ab_1 b_1 cb_1)) (rv_move rfl) ?_
    refine sq (v := (I s3)) (rv_move rfl) ?_
    obtain ⟨x12, hx13, h'⟩ := bind_some h
    clear h
    have h := h'; clear h'
    obtain ⟨b15, o16, hi14, -⟩ := (H.ro 1 rfl).ix hx13
    refine sq (v := (pt b15 o16)) (rv_ix Try.underlying34 ti3 rfl rfl hi14) ?_
    have hc17 := ((H.ro 1 rfl).at hx13 hi14).int
    refine sq (v := (I x12)) (rv_load1 Try.underlying3 rfl rfl hc17) ?_
    refine sq_end ?_
    intro σ18 hm19
    replace H := H.grow (hm19.mono fun _ h => h); clear hm19
    refine st (v := (B (x6 != x12))) (rv_neq (a := x6) (b := x12) rfl rfl) ?_
    refine w_end ?_
    refine q_then ?_
    refine cd_cond (x6 != x12) rfl (fun hb20 => ?_) (fun hb20 => ?_)
    ·replace h := bif_t hb20 h
     refine c_seq ?_
     refine rg ?_
     refine st (v := (B false)) (rv_assign rfl) ?_
     refine w_end ?_
     refine q_then ?_
     refine c_ret ?_
     refine q_blk_r ?_
     refine q_then_r ?_
     refine q_then_r ?_
     refine q_blk_r ?_
     obtain rfl := Option.some.inj h
     obtain rfl := hres _ rfl
     exact .inr (⟨_, rfl, rfl, _, σ18, fr_join ⟨rfl, trivial⟩, rfl, H.sel' [] rfl rfl⟩)
    ·replace h := bif_f hb20 h
     refine c_skip ?_
     refine q_blk ?_
     refine q_then ?_
     refine rg ?_
     refine st (v := (I s3)) (rv_move rfl) ?_
     refine st (v := (I (w64 (s3 + 1)))) (rv_add (a := s3) (b := 1) rfl rfl) ?_
     refine st (v := (I (w64 (s3 + 1)))) (rv_assign rfl) ?_
     refine w_end ?_
     refine q_then ?_
     obtain rfl := Option.some.inj h
     exact ⟨_, rfl, _, σ18, fr_join ⟨rfl, rfl, rfl, trivial⟩, rfl, H.sel' [0, 1] rfl rfl⟩
   ·replace h := bif_f hb5 h
    refine c_exit ?_
    refine q_then_x ?_
    refine q_then_x ?_
    refine q_blk_hit ?_
    obtain rfl := Option.some.inj h
    obtain rfl := hres _ rfl
    exact .inl ⟨_, rfl, rfl, _, σ4, fr_join trivial, rfl, H.sel' [] rfl rfl⟩
  ·clear hj
   have h := h'
   clear h' H
   rintro e a w (⟨t21, rfl, rfl, ρ, σ22, rfl, rfl, H⟩ | ⟨t23, rfl, rfl, ρ, σ24, rfl, rfl, H⟩)
   ·replace h := selim_l h
    refine q_then ?_
    refine c_seq ?_
    refine rg ?_
    refine st (v := (B true)) (rv_assign rfl) ?_
    refine w_end ?_
    refine q_then ?_
    refine c_ret ?_
    obtain rfl := Option.some.inj h
    exact fin_ret (v := (B true)) (results_ok Try.results50 (res_tmp (v := (B true)) rfl res_nil) rfl) ⟨rfl, rfl⟩ (H.sel' [] rfl rfl)
   ·replace h := selim_r h
    refine q_then_r ?_
    obtain rfl := Option.some.inj h
    exact fin_ret (v := (B t23)) (results_ok Try.results50 (res_tmp (v := (B t23)) rfl res_nil) rfl) ⟨rfl, rfl⟩ (H.sel' [] rfl rfl)

theorem c_laws_equalItem {a_0 : Int × (List Int) × Int} {b_1 : Int × (List Int) × Int} {aa_0_1 : Option Addr} {ca_0_1 : Nat} {ab_1_1 : Option Addr} {cb_1_1 : Nat} {r : Bool} (h : M.laws_equalItem a_0 b_1 = some r) :
    Cal2 Try.prog 24 [(.agg #[(I a_0.1), (Sl aa_0_1 a_0.2.1 ca_0_1), (I a_0.2.2)]), (.agg #[(I b_1.1), (Sl ab_1_1 b_1.2.1 cb_1_1), (I b_1.2.2)])] [Ch.ro 0 (Sl aa_0_1 a_0.2.1 ca_0_1) a_0.2.1, Ch.ro 0 (Sl ab_1_1 b_1.2.1 cb_1_1) b_1.2.1] (fun n0 v L => v = (B r) ∧ L = []) := by
 refine cal2 (n := 24) Try.func24 rfl rfl rfl rfl ?_
 intro S0 σ0 n0 hn0 H
 unfold M.laws_equalItem at h
 refine c_seq ?_
 refine rg ?_
 refine st_ex (ex_box (cs := [(I a_0.1), (Sl aa_0_1 a_0.2.1 ca_0_1), (I a_0.2.2)]) H hn0 rfl rfl) wn ?_
 rintro _ σ2 ⟨b1, rfl, H, -⟩
 refine st_ex (ex_box (cs := [(I b_1.1), (Sl ab_1_1 b_1.2.1 cb_1_1), (I b_1.2.2)]) H hn0 rfl rfl) wn ?_
 rintro _ σ4 ⟨b3, rfl, H, -⟩
 refine st (v := (B false)) (rv_assign rfl) ?_
 refine w_end ?_
 refine q_then ?_
 refine c_seq ?_
 refine rg ?_
 refine st (v := (pt b1 0)) (rv_fieldAddr (off := 0) (ft := 3) Try.underlying36 rfl ti3 rfl rfl) ?_
 have hc5 := H.cell (u := (I a_0.1)) (o' := 0) 1 0 rfl rfl rfl
 refine st (v := (I a_0.1)) (rv_load1 Try.underlying3 rfl rfl hc5) ?_
 refine st (v := (pt b3 0)) (rv_fieldAddr (off := 0) (ft := 3) Try.underlying36 rfl ti3 rfl rfl) ?_
 have hc6 := H.cell (u := (I b_1.1)) (o' := 0) 0 0 rfl rfl rfl
 refine st (v := (I b_1.1)) (rv_load1 Try.underlying3 rfl rfl hc6) ?_
 refine st (v := (B (a_0.1 == b_1.1))) (rv_eql (a := a_0.1) (b := b_1.1) rfl rfl) ?_
 refine st (v := (B (a_0.1 == b_1.1))) (rv_move rfl) ?_
 rcases Bool.eq_false_or_eq_true (a_0.1 == b_1.1) with hb7 | hb7
 ·replace h := bif_t hb7 h
  refine st_g (v := (pt b1 2)) (congrArg some hb7) (rv_fieldAddr (off := 2) (ft := 3) Try.underlying36 rfl ti3 rfl rfl) ?_
  have hc8 := H.cell (u := (I a_0.2.2)) (o' := 2) 1 2 rfl rfl rfl
  refine st_g (v := (I a_0.2.2)) (congrArg some hb7) (rv_load1 Try.underlying3 rfl rfl hc8) ?_
  refine st_g (v := (pt b3 2)) (congrArg some hb7) (rv_fieldAddr (off := 2) (ft := 3) Try.underlying36 rfl ti3 rfl rfl) ?_
  have hc9 := H.cell (u := (I b_1.2.2)) (o' := 2) 0 2 rfl rfl rfl
  refine st_g (v := (I b_1.2.2)) (congrArg some hb7) (rv_load1 Try.underlying3 rfl rfl hc9) ?_
  refine st_g (v := (B (a_0.2.2 == b_1.2.2))) (congrArg some hb7) (rv_eql (a := a_0.2.2) (b := b_1.2.2) rfl rfl) ?_
  refine st (v := (B (a_0.2.2 == b_1.2.2))) (rv_pick_t (congrArg B hb7) rfl) ?_
  refine st (v := (B (a_0.2.2 == b_1.2.2))) (rv_move rfl) ?_
  rcases Bool.eq_false_or_eq_true (a_0.2.2 == b_1.2.2) with hb10 | hb10
  ·replace h := bif_t hb10 h
   refine st_g (v := (pt b1 1)) (congrArg some hb10) (rv_fieldAddr (off := 1) (ft := 34) Try.underlying36 rfl ti34 rfl rfl) ?_
   have hc11 := H.cell (u := (Sl aa_0_1 a_0.2.1 ca_0_1)) (o' := 1) 1 1 rfl rfl rfl
   refine st_g (v := (Sl aa_0_1 a_0.2.1 ca_0_1)) (congrArg some hb10) (rv_load1 Try.underlying34 rfl rfl hc11) ?_
   refine st_g (v := (pt b3 1)) (congrArg some hb10) (rv_fieldAddr (off := 1) (ft := 34) Try.underlying36 rfl ti34 rfl rfl) ?_
   have hc12 := H.cell (u := (Sl ab_1_1 b_1.2.1 cb_1_1)) (o' := 1) 0 1 rfl rfl rfl
   refine st_g (v := (Sl ab_1_1 b_1.2.1 cb_1_1)) (congrArg some hb10) (rv_load1 Try.underlying34 rfl rfl hc12) ?_
   obtain ⟨r13, hx14, h'⟩ := bind_some h
   clear h
   have h := h'; clear h'
   have hc15 := c_laws_equalInts (aa_0 := aa_0_1) (ca_0 := ca_0_1) (ab_1 := ab_1_1) (cb_1 := cb_1_1) hx14
   refine st_call (cx_call hc15 (ent_f hc15.fn rfl) hn0 (show Hp S0 σ0 _ ([Ch.ro 0 (Sl aa_0_1 a_0.2.1 ca_0_1) a_0.2.1, Ch.ro 0 (Sl ab_1_1 b_1.2.1 cb_1_1) b_1.2.1] ++ [Ch.bx n0 b3 0 [(I b_1.1), (Sl ab_1_1 b_1.2.1 cb_1_1), (I b_1.2.2)] [] [], Ch.bx n0 b1 0 [(I a_0.1), (Sl aa_0_1 a_0.2.1 ca_0_1), (I a_0.2.2)] [] [], Ch.ro 0 (Sl aa_0_1 a_0.2.1 ca_0_1) a_0.2.1, Ch.ro 0 (Sl ab_1_1 b_1.2.1 cb_1_1) b_1.2.1]) from (H.sel' [2, 3, 0, 1, 2, 3] rfl rfl))) (wanted_yes rfl (by exact (congrArg some hb10))) ?_
   rintro _ σ16 ⟨_, ⟨rfl, rfl⟩, H, -⟩
   replace H : Hp S0 σ0 σ16 [Ch.bx n0 b3 0 [(I b_1.1), (Sl ab_1_1 b_1.2.1 cb_1_1), (I b_1.2.2)] [] [], Ch.bx n0 b1 0 [(I a_0.1), (Sl aa_0_1 a_0.2.1 ca_0_1), (I a_0.2.2)] [] [], Ch.ro 0 (Sl aa_0_1 a_0.2.1 ca_0_1) a_0.2.1, Ch.ro 0 (Sl ab_1_1 b_1.2.1 cb_1_1) b_1.2.1] := H
   refine st (v := (B r13)) (rv_pick_t (congrArg B hb10) rfl) ?_
   refine st (v := (B r13)) (rv_assign rfl) ?_
   refine w_end ?_
   refine q_then ?_
   refine c_ret ?_
   obtain rfl := Option.some.inj h
   exact fin_ret (v := (B r13)) (results_ok Try.results24 (res_tmp (v := (B r13)) rfl res_nil) rfl) ⟨rfl, rfl⟩ (H.sel' [] rfl rfl)
  ·replace h := bif_f hb10 h
   refine st_skip (congrArg some hb10) ?_
   refine st_skip (congrArg some hb10) ?_
   refine st_skip (congrArg some hb10) ?_
   refine st_skip (congrArg some hb10) ?_
   refine st_skip (congrArg some hb10) ?_
   refine st (v := (B false)) (rv_pick_f (congrArg B hb10) rfl) ?_
   refine st (v := (B false)) (rv_assign rfl) ?_
   refine w_end ?_
   refine q_then ?_
   refine c_ret ?_
   obtain rfl := Option.some.inj h
   exact fin_ret (v := (B false)) (results_ok Try.results24 (res_tmp (v := (B false)) rfl res_nil) rfl) ⟨rfl, rfl⟩ (H.sel' [] rfl rfl)
 ·replace h := bif_f hb7 h
  refine st_skip (congrArg some hb7) ?_
  refine st_skip (congrArg some hb7) ?_
  refine st_skip (congrArg some hb7) ?_
  refine st_skip (congrArg some hb7) ?_
  refine st_skip (congrArg some hb7) ?_
  refine st (v := (B false)) (rv_pick_f (congrArg B hb7) rfl) ?_
  refine st (v := (B false)) (rv_move rfl) ?_
  refine st_skip rfl ?_
  refine st_skip rfl ?_
  refine st_skip rfl ?_
  refine st_skip rfl ?_
  refine st_skip rfl ?_
  refine st (v := (B false)) (rv_pick_f rfl rfl) ?_
  refine st (v := (B false)) (rv_assign rfl) ?_
  refine w_end ?_
  refine q_then ?_
  refine c_ret ?_
  obtain rfl := Option.some.inj h
  exact fin_ret (v := (B false)) (results_ok Try.results24 (res_tmp (v := (B false)) rfl res_nil) rfl) ⟨rfl, rfl⟩ (H.sel' [] rfl rfl)

theorem c_laws_equalEntries {a_0 : List (Int × (Int × (List Int) × Int))} {b_1 : List (Int × (Int × (List Int) × Int))} {aa_0 : Option Addr} {ca_0 : Nat} {ab_1 : Option Addr} {cb_1 : Nat} {r : Bool} (h : M.laws_equalEntries a_0 b_1 = some r) :
    Cal2 Try.prog 27 [(Sl aa_0 a_0 ca_0), (Sl ab_1 b_1 cb_1)] [Ch.ro 0 (Sl aa_0 a_0 ca_0) a_0, Ch.ro 0 (Sl ab_1 b_1 cb_1) b_1] (fun n0 v L => v = (B r) ∧ L = []) := by
 refine cal2 (n := 42) Try.func27 rfl rfl rfl rfl ?_
 intro S0 σ0 n0 hn0 H
 unfold M.laws_equalEntries at h
 refine c_seq ?_
 refine rg ?_
 refine st (v := (B false)) (rv_assign rfl) ?_
 refine w_end ?_
 refine q_then ?_
 refine c_seq ?_
 refine c_seq ?_
 refine rg ?_
 refine st (v := (Sl aa_0 a_0 ca_0)) (rv_move rfl) ?_
 refine st (v := (I (a_0.length : Int))) (rv_len Try.underlying23 rfl) ?_
 refine st (v := (Sl ab_1 b_1 cb_1)) (rv_move rfl) ?_
 refine st (v := (I (b_1.length : Int))) (rv_len Try.underlying23 rfl) ?_
 refine st (v := (B ((a_0.length : Int) != (b_1.length : Int)))) (rv_neq (a := (a_0.length : Int)) (b := (b_1.length : Int)) rfl rfl) ?_
 refine w_end ?_
 refine q_then ?_
 refine cd_cond ((a_0.length : Int) != (b_1.length : Int)) rfl (fun hb1 => ?_) (fun hb1 => ?_)
 ·replace h := bif_t hb1 h
  refine c_seq ?_
  refine rg ?_
  refine st (v := (B false)) (rv_assign rfl) ?_
  refine w_end ?_
  refine q_then ?_
  refine c_ret ?_
  refine q_then_r ?_
  obtain rfl := Option.some.inj h
  exact fin_ret (v := (B false)) (results_ok Try.results27 (res_tmp (v := (B false)) rfl res_nil) rfl) ⟨rfl, rfl⟩ (H.sel' [] rfl rfl)
 ·replace h := bif_f hb1 h
  refine c_skip ?_
  refine q_then ?_
  refine c_seq ?_
  refine c_seq ?_
  refine rg ?_
  refine st (v := (I 0)) (rv_assign rfl) ?_
  refine w_end ?_
  refine q_then ?_
  obtain ⟨o2, hj, h'⟩ := bind_some h
  clear h
  refine c_cut (fun e a w => (∃ t, o2 = (.inl t) ∧ e = .normal ∧ ∃ (ρ : Nat → Value) (σ : St), a = fr 42 (updL ρ []) ∧ w = σ.w ∧ Hp S0 σ0 σ []) ∨ (∃ t, o2 = (.inr t) ∧ e = .ret ∧ ∃ (ρ : Nat → Value) (σ : St), a = fr 42 (updL ρ [(4, (B t))]) ∧ w = σ.w ∧ Hp S0 σ0 σ [])) ?_ ?_
  ·clear h'
   rename _ = some o2 => h
   refine c_blk ?_
   refine wp_loopM _ h (fun s3 a w => ∃ (ρ : Nat → Value) (σ : St), a = fr 42 (updL ρ [(0, (Sl aa_0 a_0 ca_0)), (1, (Sl ab_1 b_1 cb_1)), (5, (I s3))]) ∧ w = σ.w ∧ Hp S0 σ0 σ [Ch.ro 0 (Sl aa_0 a_0 ca_0) a_0, Ch.ro 0 (Sl ab_1 b_1 cb_1) b_1]) ⟨_, σ0, fr_join ⟨rfl, rfl, rfl, trivial⟩, rfl, H.sel' [0, 1] rfl rfl⟩ ?_
   clear h H
   rintro s3 a w o ⟨ρ, σ4, rfl, rfl, H⟩ h hres
   refine c_seq ?_
   refine c_seq ?_
   refine rg ?_
   refine st (v := (I s3)) (rv_move rfl) ?_
   refine st (v := (Sl aa_0 a_0 ca_0)) (rv_move rfl) ?_
   refine st (v := (I (a_0.length : Int))) (rv_len Try.underlying23 rfl) ?_
   refine st (v := (B (decide (s3 < (a_0.length : Int))))) (rv_lss (a := s3) (b := (a_0.length : Int)) rfl rfl) ?_
   refine w_end ?_
   refine q_then ?_
   refine cd_cond (decide (s3 < (a_0.length : Int))) rfl (fun hb5 => ?_) (fun hb5 => ?_)
   ·replace h := bif_t hb5 h
    refine c_skip ?_
    refine q_then ?_
    refine c_seq ?_
    refine c_blk ?_
    refine c_seq ?_
    obtain ⟨o6, hj, h'⟩ := bind_some h
    clear h
    refine c_cut (fun e a w => e = .normal ∧ ∃ (ρ : Nat → Value) (σ : St), a = fr 42 (updL ρ [(0, (Sl aa_0 a_0 ca_0)), (1, (Sl ab_1 b_1 cb_1)), (5, (I s3)), (41, (B o6))]) ∧ w = σ.w ∧ Hp S0 σ0 σ [Ch.ro 0 (Sl aa_0 a_0 ca_0) a_0, Ch.ro 0 (Sl ab_1 b_1 cb_1) b_1]) ?_ ?_
    ·clear h'
     rename _ = some o6 => h
     refine rgP (σ := σ4) 22 (by kernel_rfl) (by kernel_rfl) (by kernel_rfl) ?_
     refine sq (v := (Sl aa_0 a_0 ca_0)) (rv_move rfl) ?_
     refine sq (v := (I s3)) (rv_move rfl) ?_
     obtain ⟨x7, hx8, h'⟩ := bind_some h
     clear h
     have h := h'; clear h'
     obtain ⟨b10, o11, hi9, -⟩ := (H.ro 0 rfl).ix hx8
     refine sq (v := (pt b10 o11)) (rv_ix Try.underlying23 ti38 rfl rfl hi9) ?_
     refine sq (v := (pt b10 (o11 + 0))) (rv_fieldAddr (off := 0) (ft := 3) Try.underlying38 rfl ti3 rfl rfl) ?_
     have hc12 := ((H.ro 0 rfl).at hx8 hi9).fst.int
     refine sq (v := (I x7.1)) (rv_load1 Try.underlying3 rfl rfl hc12) ?_
     refine sq (v := (Sl ab_1 b_1 cb_1)) (rv_move rfl) ?_
     refine sq (v := (I s3)) (rv_move rfl) ?_
     obtain ⟨x13, hx14, h'⟩ := bind_some h
     clear h
     have h := h'; clear h'
     obtain ⟨b16, o17, hi15, -⟩ := (H.ro 1 rfl).ix hx14
     refine sq (v := (pt b16 o17)) (rv_ix Try.underlying23 ti38 rfl rfl hi15) ?_
     refine sq (v := (pt b16 (o17 + 0))) (rv_fieldAddr (off := 0) (ft := 3) Try.underlying38 rfl ti3 rfl rfl) ?_
     have hc18 := ((H.ro 1 rfl).at hx14 hi15).fst.int
     refine sq (v := (I x13.1)) (rv_load1 Try.underlying3 rfl rfl hc18) ?_
     refine sq (v := (B (x7.1 != x13.1))) (rv_neq (a := x7.1) (b := x13.1) rfl rfl) ?_
     refine sq (v := (B (x7.1 != x13.1))) (rv_move rfl) ?_
     rcases Bool.eq_false_or_eq_true (x7.1 != x13.1) with hb19 | hb19
     ·replace h := bif_t hb19 h
      refine sq_skip (congrArg some hb19) ?_
      refine sq_skip (congrArg some hb19) ?_
      refine sq_skip (congrArg some hb19) ?_
      refine sq_skip (congrArg some hb19) ?_
      refine sq_skip (congrArg some hb19) ?_
      refine sq_skip (congrArg some hb19) ?_
      refine sq_skip (congrArg some hb19) ?_
      refine sq_skip (congrArg some hb19) ?_
      refine sq_skip (congrArg some hb19) ?_
      refine sq_skip (congrArg some hb19) ?_
      refine sq_end ?_
      intro σ20 hm21
      replace H := H.grow (hm21.mono fun _ h => h); clear hm21
      refine st_skip (congrArg some hb19) ?_
      refine st_skip (congrArg some hb19) ?_
      refine st (v := (B true)) (rv_pick_t (congrArg B hb19) rfl) ?_
      refine w_end ?_
      obtain rfl := Option.some.inj h
      exact ⟨rfl, _, σ20, fr_join ⟨rfl, rfl, rfl, rfl, trivial⟩, rfl, H.sel' [0, 1] rfl rfl⟩
     ·replace h := bif_f hb19 h
      refine sq_g (v := (Sl aa_0 a_0 ca_0)) (congrArg some hb19) (rv_move rfl) ?_
      refine sq_g (v := (I s3)) (congrArg some hb19) (rv_move rfl) ?_
      obtain ⟨x22, hx23, h'⟩ := bind_some h
      clear h
      have h := h'; clear h'
      obtain ⟨b25, o26, hi24, -⟩ := (H.ro 0 rfl).ix hx23
      refine sq_g (v := (pt b25 o26)) (congrArg some hb19) (rv_ix Try.underlying23 ti38 rfl rfl hi24) ?_
      refine sq_g (v := (pt b25 (o26 + 1))) (congrArg some hb19) (rv_fieldAddr (off := 1) (ft := 36) Try.underlying38 rfl ti36 rfl rfl) ?_
      obtain ⟨_, ⟨_, _, rfl, rfl, ⟨_, _, rfl, ⟨_, rfl, hR31⟩, rfl⟩⟩, hl27, hc28⟩ := ((H.ro 0 rfl).at hx23 hi24).snd.cells
      obtain ⟨a29, c30, rfl⟩ := hR31.isSl
      replace H := H.add (d := Ch.ro 0 (Sl a29 x22.2.2.1 c30) x22.2.2.1) hR31 (fun _ h => h)
      clear hR31
      refine sq_g (v := (.agg #[(I x22.2.1), (Sl a29 x22.2.2.1 c30), (I x22.2.2.2)])) (congrArg some hb19) (rv_load Try.underlying36 rfl ti36 rfl hl27 hc28) ?_
      refine sq_g (v := (Sl ab_1 b_1 cb_1)) (congrArg some hb19) (rv_move rfl) ?_
      refine sq_g (v := (I s3)) (congrArg some hb19) (rv_move rfl) ?_
      obtain ⟨x32, hx33, h'⟩ := bind_some h
      clear h
      have h := h'; clear h'
      obtain ⟨b35, o36, hi34, -⟩ := (H.ro 2 rfl).ix hx33
      refine sq_g (v := (pt b35 o36)) (congrArg some hb19) (rv_ix Try.underlying23 ti38 rfl rfl hi34) ?_
      refine sq_g (v := (pt b35 (o36 + 1))) (congrArg some hb19) (rv_fieldAddr (off := 1) (ft := 36) Try.underlying38 rfl ti36 rfl rfl) ?_
      obtain ⟨_, ⟨_, _, rfl, rfl, ⟨_, _, rfl, ⟨_, rfl, hR41⟩, rfl⟩⟩, hl37, hc38⟩ := ((H.ro 2 rfl).at hx33 hi34).snd.cells
      obtain ⟨a39, c40, rfl⟩ := hR41.isSl
      replace H := H.add (d := Ch.ro 0 (Sl a39 x32.2.2.1 c40) x32.2.2.1) hR41 (fun _ h => h)
      clear hR41
      refine sq_g (v := (.agg #[(I x32.2.1), (Sl a39 x32.2.2.1 c40), (I x32.2.2.2)])) (congrArg some hb19) (rv_load Try.underlying36 rfl ti36 rfl hl37 hc38) ?_
      refine sq_end ?_
      intro σ42 hm43
      replace H := H.grow (hm43.mono fun _ h => h); clear hm43
      obtain ⟨r44, hx45, h'⟩ := bind_some h
      clear h
      have h := h'; clear h'
      have hc46 := c_laws_equalItem (aa_0_1 := a29) (ca_0_1 := c30) (ab_1_1 := a39) (cb_1_1 := c40) hx45
      refine st_call (cx_call hc46 (ent_f hc46.fn rfl) hn0 (show Hp S0 σ0 _ ([Ch.ro 0 (Sl a29 x22.2.2.1 c30) x22.2.2.1, Ch.ro 0 (Sl a39 x32.2.2.1 c40) x32.2.2.1] ++ [Ch.ro 0 (Sl a39 x32.2.2.1 c40) x32.2.2.1, Ch.ro 0 (Sl a29 x22.2.2.1 c30) x22.2.2.1, Ch.ro 0 (Sl aa_0 a_0 ca_0) a_0, Ch.ro 0 (Sl ab_1 b_1 cb_1) b_1]) from (H.sel' [1, 0, 0, 1, 2, 3] rfl rfl))) (wanted_yes rfl (by exact (congrArg some hb19))) ?_
      rintro _ σ47 ⟨_, ⟨rfl, rfl⟩, H, -⟩
      replace H : Hp S0 σ0 σ47 [Ch.ro 0 (Sl a39 x32.2.2.1 c40) x32.2.2.1, Ch.ro 0 (Sl a29 x22.2.2.1 c30) x22.2.2.1, Ch.ro 0 (Sl aa_0 a_0 ca_0) a_0, Ch.ro 0 (Sl ab_1 b_1 cb_1) b_1] := H
      refine st_g (v := (B (!r44))) (congrArg some hb19) (rv_not rfl) ?_
      refine st (v := (B (!r44))) (rv_pick_f (congrArg B hb19) rfl) ?_
      refine w_end ?_
      obtain rfl := Option.some.inj h
      exact ⟨rfl, _, σ47, fr_join ⟨rfl, rfl, rfl, rfl, trivial⟩, rfl, H.sel' [2, 3] rfl rfl⟩
    ·clear hj
     have h := h'
     clear h' H
     rintro e a w ⟨rfl, ρ, σ48, rfl, rfl, H⟩
     refine q_then ?_
     refine cd_cond o6 rfl (fun hb49 => ?_) (fun hb49 => ?_)
     ·replace h := bif_t hb49 h
      refine c_seq ?_
      refine rg ?_
      refine st (v := (B false)) (rv_assign rfl) ?_
      refine w_end ?_
      refine q_then ?_
      refine c_ret ?_
      refine q_blk_r ?_
      refine q_then_r ?_
      refine q_then_r ?_
      refine q_blk_r ?_
      obtain rfl := Option.some.inj h
      obtain rfl := hres _ rfl
      exact .inr (⟨_, rfl, rfl, _, σ48, fr_join ⟨rfl, trivial⟩, rfl, H.sel' [] rfl rfl⟩)
     ·replace h := bif_f hb49 h
      refine c_skip ?_
      refine q_blk ?_
      refine q_then ?_
      refine rg ?_
      refine st (v := (I s3)) (rv_move rfl) ?_
      refine st (v := (I (w64 (s3 + 1)))) (rv_add (a := s3) (b := 1) rfl rfl) ?_
      refine st (v := (I (w64 (s3 + 1)))) (rv_assign rfl) ?_
      refine w_end ?_
      refine q_then ?_
      obtain rfl := Option.some.inj h
      exact ⟨_, rfl, _, σ48, fr_join ⟨rfl, rfl, rfl, trivial⟩, rfl, H.sel' [0, 1] rfl rfl⟩
   ·replace h := bif_f hb5 h
    refine c_exit ?_
    refine q_then_x ?_
    refine q_then_x ?_
    refine q_blk_hit ?_
    obtain rfl := Option.some.inj h
    obtain rfl := hres _ rfl
    exact .inl ⟨_, rfl, rfl, _, σ4, fr_join trivial, rfl, H.sel' [] rfl rfl⟩
  ·clear hj
   have h := h'
   clear h' H
   rintro e a w (⟨t50, rfl, rfl, ρ, σ51, rfl, rfl, H⟩ | ⟨t52, rfl, rfl, ρ, σ53, rfl, rfl, H⟩)
   ·replace h := selim_l h
    refine q_then ?_
    refine c_seq ?_
    refine rg ?_
    refine st (v := (B true)) (rv_assign rfl) ?_
    refine w_end ?_
    refine q_then ?_
    refine c_ret ?_
    obtain rfl := Option.some.inj h
    exact fin_ret (v := (B true)) (results_ok Try.results27 (res_tmp (v := (B true)) rfl res_nil) rfl) ⟨rfl, rfl⟩ (H.sel' [] rfl rfl)
   ·replace h := selim_r h
    refine q_then_r ?_
    obtain rfl := Option.some.inj h
    exact fin_ret (v := (B t52)) (results_ok Try.results27 (res_tmp (v := (B t52)) rfl res_nil) rfl) ⟨rfl, rfl⟩ (H.sel' [] rfl rfl)

theorem c_spec_inRange {n_0 : Int} {low_1 : Int} {high_2 : Int}  {r : Bool} (h : M.spec_inRange n_0 low_1 high_2 = some r) :
    Cal2 Try.prog 66 [(I n_0), (I low_1), (I high_2)] [] (fun n0 v L => v = (B r) ∧ L = []) := by
 refine cal2 (n := 15) Try.func66 rfl rfl rfl rfl ?_
 intro S0 σ0 n0 hn0 H
 unfold M.spec_inRange at h
 refine c_seq ?_
 refine rg ?_
 refine st (v := (B false)) (rv_assign rfl) ?_
 refine w_end ?_
 refine q_then ?_
 refine c_seq ?_
 refine rg ?_
 refine st (v := (I low_1)) (rv_move rfl) ?_
 refine st (v := (I n_0)) (rv_move rfl) ?_
 refine st (v := (B (decide (low_1 ≤ n_0)))) (rv_leq (a := low_1) (b := n_0) rfl rfl) ?_
 refine st (v := (B (decide (low_1 ≤ n_0)))) (rv_move rfl) ?_
 rcases Bool.eq_false_or_eq_true (decide (low_1 ≤ n_0)) with hb1 | hb1
 ·replace h := bif_t hb1 h
  refine st_g (v := (I n_0)) (congrArg some hb1) (rv_move rfl) ?_
  refine st_g (v := (I high_2)) (congrArg some hb1) (rv_move rfl) ?_
  refine st_g (v := (B (decide (n_0 ≤ high_2)))) (congrArg some hb1) (rv_leq (a := n_0) (b := high_2) rfl rfl) ?_
  refine st (v := (B (decide (n_0 ≤ high_2)))) (rv_pick_t (congrArg B hb1) rfl) ?_
  refine st (v := (B (decide (n_0 ≤ high_2)))) (rv_assign rfl) ?_
  refine w_end ?_
  refine q_then ?_
  refine c_ret ?_
  obtain rfl := Option.some.inj h
  exact fin_ret (v := (B (decide (n_0 ≤ high_2)))) (results_ok Try.results66 (res_tmp (v := (B (decide (n_0 ≤ high_2)))) rfl res_nil) rfl) ⟨rfl, rfl⟩ (H.sel' [] rfl rfl)
 ·replace h := bif_f hb1 h
  refine st_skip (congrArg some hb1) ?_
  refine st_skip (congrArg some hb1) ?_
  refine st_skip (congrArg some hb1) ?_
  refine st (v := (B false)) (rv_pick_f (congrArg B hb1) rfl) ?_
  refine st (v := (B false)) (rv_assign rfl) ?_
  refine w_end ?_
  refine q_then ?_
  refine c_ret ?_
  obtain rfl := Option.some.inj h
  exact fin_ret (v := (B false)) (results_ok Try.results66 (res_tmp (v := (B false)) rfl res_nil) rfl) ⟨rfl, rfl⟩ (H.sel' [] rfl rfl)

theorem c_spec_allIn {list_0 : List Int} {low_1 : Int} {high_2 : Int} {alist_0 : Option Addr} {clist_0 : Nat} {r : Bool} (h : M.spec_allIn list_0 low_1 high_2 = some r) :
    Cal2 Try.prog 108 [(Sl alist_0 list_0 clist_0), (I low_1), (I high_2)] [Ch.ro 0 (Sl alist_0 list_0 clist_0) list_0] (fun n0 v L => v = (B r) ∧ L = []) := by
 refine cal2 (n := 22) Try.func108 rfl rfl rfl rfl ?_
 intro S0 σ0 n0 hn0 H
 unfold M.spec_allIn at h
 refine c_seq ?_
 refine rg ?_
 refine st (v := (B false)) (rv_assign rfl) ?_
 refine w_end ?_
 refine q_then ?_
 refine c_seq ?_
 refine c_seq ?_
 refine rg ?_
 refine st (v := (I 0)) (rv_assign rfl) ?_
 refine w_end ?_
 refine q_then ?_
 obtain ⟨o1, hj, h'⟩ := bind_some h
 clear h
 refine c_cut (fun e a w => (∃ t, o1 = (.inl t) ∧ e = .normal ∧ ∃ (ρ : Nat → Value) (σ : St), a = fr 22 (updL ρ []) ∧ w = σ.w ∧ Hp S0 σ0 σ []) ∨ (∃ t, o1 = (.inr t) ∧ e = .ret ∧ ∃ (ρ : Nat → Value) (σ : St), a = fr 22 (updL ρ [(6, (B t))]) ∧ w = σ.w ∧ Hp S0 σ0 σ [])) ?_ ?_
 ·clear h'
  rename _ = some o1 => h
  refine c_blk ?_
  refine wp_loopM _ h (fun s2 a w => ∃ (ρ : Nat → Value) (σ : St), a = fr 22 (updL ρ [(0, (Sl alist_0 list_0 clist_0)), (1, (I low_1)), (2, (I high_2)), (7, (I s2))]) ∧ w = σ.w ∧ Hp S0 σ0 σ [Ch.ro 0 (Sl alist_0 list_0 clist_0) list_0]) ⟨_, σ0, fr_join ⟨rfl, rfl, rfl, rfl, trivial⟩, rfl, H.sel' [0] rfl rfl⟩ ?_
  clear h H
  rintro s2 a w o ⟨ρ, σ3, rfl, rfl, H⟩ h hres
  refine c_seq ?_
  refine c_seq ?_
  refine rg ?_
  refine st (v := (I s2)) (rv_move rfl) ?_
  refine st (v := (Sl alist_0 list_0 clist_0)) (rv_move rfl) ?_
  refine st (v := (I (list_0.length : Int))) (rv_len Try.underlying34 rfl) ?_
  refine st (v := (B (decide (s2 < (list_0.length : Int))))) (rv_lss (a := s2) (b := (list_0.length : Int)) rfl rfl) ?_
  refine w_end ?_
  refine q_then ?_
  refine cd_cond (decide (s2 < (list_0.length : Int))) rfl (fun hb4 => ?_) (fun hb4 => ?_)
  ·replace h := bif_t hb4 h
   refine c_skip ?_
   refine q_then ?_
   refine c_seq ?_
   refine c_blk ?_
   refine c_seq ?_
   refine rg ?_
   refine st (v := (Sl alist_0 list_0 clist_0)) (rv_move rfl) ?_
   refine st (v := (I s2)) (rv_move rfl) ?_
   obtain ⟨x5, hx6, h'⟩ := bind_some h
   clear h
   have h := h'; clear h'
   obtain ⟨b8, o9, hi7, -⟩ := (H.ro 0 rfl).ix hx6
   refine st (v := (pt b8 o9)) (rv_ix Try.underlying34 ti3 rfl rfl hi7) ?_
   have hc10 := ((H.ro 0 rfl).at hx6 hi7).int
   refine st (v := (I x5)) (rv_load1 Try.underlying3 rfl rfl hc10) ?_
   refine st (v := (I low_1)) (rv_move rfl) ?_
   refine st (v := (I high_2)) (rv_move rfl) ?_
   obtain ⟨r11, hx12, h'⟩ := bind_some h
   clear h
   have h := h'; clear h'
   have hc13 := c_spec_inRange hx12
   refine st_call (cx_call hc13 (ent_f hc13.fn rfl) hn0 (show Hp S0 σ0 _ ([] ++ [Ch.ro 0 (Sl alist_0 list_0 clist_0) list_0]) from (H.sel' [0] rfl rfl))) wn ?_
   rintro _ σ14 ⟨_, ⟨rfl, rfl⟩, H, -⟩
   replace H : Hp S0 σ0 σ14 [Ch.ro 0 (Sl alist_0 list_0 clist_0) list_0] := H
   refine st (v := (B (!r11))) (rv_not rfl) ?_
   refine w_end ?_
   refine q_then ?_
   refine cd_cond (!r11) rfl (fun hb15 => ?_) (fun hb15 => ?_)
   ·replace h := bif_t hb15 h
    refine c_seq ?_
    refine rg ?_
    refine st (v := (B false)) (rv_assign rfl) ?_
    refine w_end ?_
    refine q_then ?_
    refine c_ret ?_
    refine q_blk_r ?_
    refine q_then_r ?_
    refine q_then_r ?_
    refine q_blk_r ?_
    obtain rfl := Option.some.inj h
    obtain rfl := hres _ rfl
    exact .inr (⟨_, rfl, rfl, _, σ14, fr_join ⟨rfl, trivial⟩, rfl, H.sel' [] rfl rfl⟩)
   ·replace h := bif_f hb15 h
    refine c_skip ?_
    refine q_blk ?_
    refine q_then ?_
    refine rg ?_
    refine st (v := (I s2)) (rv_move rfl) ?_
    refine st (v := (I (w64 (s2 + 1)))) (rv_add (a := s2) (b := 1) rfl rfl) ?_
    refine st (v := (I (w64 (s2 + 1)))) (rv_assign rfl) ?_
    refine w_end ?_
    refine q_then ?_
    obtain rfl := Option.some.inj h
    exact ⟨_, rfl, _, σ14, fr_join ⟨rfl, rfl, rfl, rfl, trivial⟩, rfl, H.sel' [0] rfl rfl⟩
  ·replace h := bif_f hb4 h
   refine c_exit ?_
   refine q_then_x ?_
   refine q_then_x ?_
   refine q_blk_hit ?_
   obtain rfl := Option.some.inj h
   obtain rfl := hres _ rfl
   exact .inl ⟨_, rfl, rfl, _, σ3, fr_join trivial, rfl, H.sel' [] rfl rfl⟩
 ·clear hj
  have h := h'
  clear h' H
  rintro e a w (⟨t16, rfl, rfl, ρ, σ17, rfl, rfl, H⟩ | ⟨t18, rfl, rfl, ρ, σ19, rfl, rfl, H⟩)
  ·replace h := selim_l h
   refine q_then ?_
   refine c_seq ?_
   refine rg ?_
   refine st (v := (B true)) (rv_assign rfl) ?_
   refine w_end ?_
   refine q_then ?_
   refine c_ret ?_
   obtain rfl := Option.some.inj h
   exact fin_ret (v := (B true)) (results_ok Try.results108 (res_tmp (v := (B true)) rfl res_nil) rfl) ⟨rfl, rfl⟩ (H.sel' [] rfl rfl)
  ·replace h := selim_r h
   refine q_then_r ?_
   obtain rfl := Option.some.inj h
   exact fin_ret (v := (B t18)) (results_ok Try.results108 (res_tmp (v := (B t18)) rfl res_nil) rfl) ⟨rfl, rfl⟩ (H.sel' [] rfl rfl)

theorem c_spec_isVector {v_0 : List Int} {av_0 : Option Addr} {cv_0 : Nat} {r : Bool} (h : M.spec_isVector v_0 = some r) :
    Cal2 Try.prog 98 [(Sl av_0 v_0 cv_0)] [Ch.ro 0 (Sl av_0 v_0 cv_0) v_0] (fun n0 v L => v = (B r) ∧ L = []) := by
 refine cal2 (n := 10) Try.func98 rfl rfl rfl rfl ?_
 intro S0 σ0 n0 hn0 H
 unfold M.spec_isVector at h
 refine c_seq ?_
 refine rg ?_
 refine st (v := (B false)) (rv_assign rfl) ?_
 refine w_end ?_
 refine q_then ?_
 refine c_seq ?_
 refine rg ?_
 refine st (v := (Sl av_0 v_0 cv_0)) (rv_move rfl) ?_
 refine st (v := (I (v_0.length : Int))) (rv_len Try.underlying34 rfl) ?_
 refine st (v := (B ((v_0.length : Int) == 4))) (rv_eql (a := (v_0.length : Int)) (b := 4) rfl rfl) ?_
 refine st (v := (B ((v_0.length : Int) == 4))) (rv_move rfl) ?_
 rcases Bool.eq_false_or_eq_true ((v_0.length : Int) == 4) with hb1 | hb1
 ·replace h := bif_t hb1 h
  refine st_g (v := (Sl av_0 v_0 cv_0)) (congrArg some hb1) (rv_move rfl) ?_
  obtain ⟨r2, hx3, h'⟩ := bind_some h
  clear h
  have h := h'; clear h'
  have hc4 := c_spec_allIn (alist_0 := av_0) (clist_0 := cv_0) hx3
  refine st_call (cx_call hc4 (ent_f hc4.fn rfl) hn0 (show Hp S0 σ0 _ ([Ch.ro 0 (Sl av_0 v_0 cv_0) v_0] ++ [Ch.ro 0 (Sl av_0 v_0 cv_0) v_0]) from (H.sel' [0, 0] rfl rfl))) (wanted_yes rfl (by exact (congrArg some hb1))) ?_
  rintro _ σ5 ⟨_, ⟨rfl, rfl⟩, H, -⟩
  replace H : Hp S0 σ0 σ5 [Ch.ro 0 (Sl av_0 v_0 cv_0) v_0] := H
  refine st (v := (B r2)) (rv_pick_t (congrArg B hb1) rfl) ?_
  refine st (v := (B r2)) (rv_assign rfl) ?_
  refine w_end ?_
  refine q_then ?_
  refine c_ret ?_
  obtain rfl := Option.some.inj h
  exact fin_ret (v := (B r2)) (results_ok Try.results98 (res_tmp (v := (B r2)) rfl res_nil) rfl) ⟨rfl, rfl⟩ (H.sel' [] rfl rfl)
 ·replace h := bif_f hb1 h
  refine st_skip (congrArg some hb1) ?_
  refine st_skip (congrArg some hb1) ?_
  refine st (v := (B false)) (rv_pick_f (congrArg B hb1) rfl) ?_
  refine st (v := (B false)) (rv_assign rfl) ?_
  refine w_end ?_
  refine q_then ?_
  refine c_ret ?_
  obtain rfl := Option.some.inj h
  exact fin_ret (v := (B false)) (results_ok Try.results98 (res_tmp (v := (B false)) rfl res_nil) rfl) ⟨rfl, rfl⟩ (H.sel' [] rfl rfl)

theorem c_spec_validItem {x_0 : Int × (List Int) × Int} {ax_0_1 : Option Addr} {cx_0_1 : Nat} {r : Bool} (h : M.spec_validItem x_0 = some r) :
    Cal2 Try.prog 78 [(.agg #[(I x_0.1), (Sl ax_0_1 x_0.2.1 cx_0_1), (I x_0.2.2)])] [Ch.ro 0 (Sl ax_0_1 x_0.2.1 cx_0_1) x_0.2.1] (fun n0 v L => v = (B r) ∧ L = []) := by
 refine cal2 (n := 16) Try.func78 rfl rfl rfl rfl ?_
 intro S0 σ0 n0 hn0 H
 unfold M.spec_validItem at h
 refine c_seq ?_
 refine rg ?_
 refine st_ex (ex_box (cs := [(I x_0.1), (Sl ax_0_1 x_0.2.1 cx_0_1), (I x_0.2.2)]) H hn0 rfl rfl) wn ?_
 rintro _ σ2 ⟨b1, rfl, H, -⟩
 refine st (v := (B false)) (rv_assign rfl) ?_
 refine w_end ?_
 refine q_then ?_
 refine c_seq ?_
 refine rg ?_
 refine st (v := (pt b1 0)) (rv_fieldAddr (off := 0) (ft := 3) Try.underlying36 rfl ti3 rfl rfl) ?_
 have hc3 := H.cell (u := (I x_0.1)) (o' := 0) 0 0 rfl rfl rfl
 refine st (v := (I x_0.1)) (rv_load1 Try.underlying3 rfl rfl hc3) ?_
 obtain ⟨r4, hx5, h'⟩ := bind_some h
 clear h
 have h := h'; clear h'
 have hc6 := c_spec_inRange hx5
 refine st_call (cx_call hc6 (ent_f hc6.fn rfl) hn0 (show Hp S0 σ0 _ ([] ++ [Ch.bx n0 b1 0 [(I x_0.1), (Sl ax_0_1 x_0.2.1 cx_0_1), (I x_0.2.2)] [] [], Ch.ro 0 (Sl ax_0_1 x_0.2.1 cx_0_1) x_0.2.1]) from (H.sel' [0, 1] rfl rfl))) wn ?_
 rintro _ σ7 ⟨_, ⟨rfl, rfl⟩, H, -⟩
 replace H : Hp S0 σ0 σ7 [Ch.bx n0 b1 0 [(I x_0.1), (Sl ax_0_1 x_0.2.1 cx_0_1), (I x_0.2.2)] [] [], Ch.ro 0 (Sl ax_0_1 x_0.2.1 cx_0_1) x_0.2.1] := H
 refine st (v := (B r4)) (rv_move rfl) ?_
 rcases Bool.eq_false_or_eq_true r4 with hb8 | hb8
 ·replace h := bif_t hb8 h
  refine st_g (v := (pt b1 1)) (congrArg some hb8) (rv_fieldAddr (off := 1) (ft := 34) Try.underlying36 rfl ti34 rfl rfl) ?_
  have hc9 := H.cell (u := (Sl ax_0_1 x_0.2.1 cx_0_1)) (o' := 1) 0 1 rfl rfl rfl
  refine st_g (v := (Sl ax_0_1 x_0.2.1 cx_0_1)) (congrArg some hb8) (rv_load1 Try.underlying34 rfl rfl hc9) ?_
  obtain ⟨r10, hx11, h'⟩ := bind_some h
  clear h
  have h := h'; clear h'
  have hc12 := c_spec_isVector (av_0 := ax_0_1) (cv_0 := cx_0_1) hx11
  refine st_call (cx_call hc12 (ent_f hc12.fn rfl) hn0 (show Hp S0 σ0 _ ([Ch.ro 0 (Sl ax_0_1 x_0.2.1 cx_0_1) x_0.2.1] ++ [Ch.bx n0 b1 0 [(I x_0.1), (Sl ax_0_1 x_0.2.1 cx_0_1), (I x_0.2.2)] [] [], Ch.ro 0 (Sl ax_0_1 x_0.2.1 cx_0_1) x_0.2.1]) from (H.sel' [1, 0, 1] rfl rfl))) (wanted_yes rfl (by exact (congrArg some hb8))) ?_
  rintro _ σ13 ⟨_, ⟨rfl, rfl⟩, H, -⟩
  replace H : Hp S0 σ0 σ13 [Ch.bx n0 b1 0 [(I x_0.1), (Sl ax_0_1 x_0.2.1 cx_0_1), (I x_0.2.2)] [] [], Ch.ro 0 (Sl ax_0_1 x_0.2.1 cx_0_1) x_0.2.1] := H
  refine st (v := (B r10)) (rv_pick_t (congrArg B hb8) rfl) ?_
  refine st (v := (B r10)) (rv_move rfl) ?_
  rcases Bool.eq_false_or_eq_true r10 with hb14 | hb14
  ·replace h := bif_t hb14 h
   refine st_g (v := (pt b1 2)) (congrArg some hb14) (rv_fieldAddr (off := 2) (ft := 3) Try.underlying36 rfl ti3 rfl rfl) ?_
   have hc15 := H.cell (u := (I x_0.2.2)) (o' := 2) 0 2 rfl rfl rfl
   refine st_g (v := (I x_0.2.2)) (congrArg some hb14) (rv_load1 Try.underlying3 rfl rfl hc15) ?_
   obtain ⟨r16, hx17, h'⟩ := bind_some h
   clear h
   have h := h'; clear h'
   have hc18 := c_spec_inRange hx17
   refine st_call (cx_call hc18 (ent_f hc18.fn rfl) hn0 (show Hp S0 σ0 _ ([] ++ [Ch.bx n0 b1 0 [(I x_0.1), (Sl ax_0_1 x_0.2.1 cx_0_1), (I x_0.2.2)] [] [], Ch.ro 0 (Sl ax_0_1 x_0.2.1 cx_0_1) x_0.2.1]) from (H.sel' [0, 1] rfl rfl))) (wanted_yes rfl (by exact (congrArg some hb14))) ?_
   rintro _ σ19 ⟨_, ⟨rfl, rfl⟩, H, -⟩
   replace H : Hp S0 σ0 σ19 [Ch.bx n0 b1 0 [(I x_0.1), (Sl ax_0_1 x_0.2.1 cx_0_1), (I x_0.2.2)] [] [], Ch.ro 0 (Sl ax_0_1 x_0.2.1 cx_0_1) x_0.2.1] := H
   refine st (v := (B r16)) (rv_pick_t (congrArg B hb14) rfl) ?_
   refine st (v := (B r16)) (rv_assign rfl) ?_
   refine w_end ?_
   refine q_then ?_
   refine c_ret ?_
   obtain rfl := Option.some.inj h
   exact fin_ret (v := (B r16)) (results_ok Try.results78 (res_tmp (v := (B r16)) rfl res_nil) rfl) ⟨rfl, rfl⟩ (H.sel' [] rfl rfl)
  ·replace h := bif_f hb14 h
   refine st_skip (congrArg some hb14) ?_
   refine st_skip (congrArg some hb14) ?_
   refine st_skip (congrArg some hb14) ?_
   refine st (v := (B false)) (rv_pick_f (congrArg B hb14) rfl) ?_
   refine st (v := (B false)) (rv_assign rfl) ?_
   refine w_end ?_
   refine q_then ?_
   refine c_ret ?_
   obtain rfl := Option.some.inj h
   exact fin_ret (v := (B false)) (results_ok Try.results78 (res_tmp (v := (B false)) rfl res_nil) rfl) ⟨rfl, rfl⟩ (H.sel' [] rfl rfl)
 ·replace h := bif_f hb8 h
  refine st_skip (congrArg some hb8) ?_
  refine st_skip (congrArg some hb8) ?_
  refine st_skip (congrArg some hb8) ?_
  refine st (v := (B false)) (rv_pick_f (congrArg B hb8) rfl) ?_
  refine st (v := (B false)) (rv_move rfl) ?_
  refine st_skip rfl ?_
  refine st_skip rfl ?_
  refine st_skip rfl ?_
  refine st (v := (B false)) (rv_pick_f rfl rfl) ?_
  refine st (v := (B false)) (rv_assign rfl) ?_
  refine w_end ?_
  refine q_then ?_
  refine c_ret ?_
  obtain rfl := Option.some.inj h
  exact fin_ret (v := (B false)) (results_ok Try.results78 (res_tmp (v := (B false)) rfl res_nil) rfl) ⟨rfl, rfl⟩ (H.sel' [] rfl rfl)

theorem c_spec_validEntry {e_0 : Int × (Int × (List Int) × Int)} {ae_0_1_1 : Option Addr} {ce_0_1_1 : Nat} {r : Bool} (h : M.spec_validEntry e_0 = some r) :
    Cal2 Try.prog 74 [(.agg #[(I e_0.1), (I e_0.2.1), (Sl ae_0_1_1 e_0.2.2.1 ce_0_1_1), (I e_0.2.2.2)])] [Ch.ro 0 (Sl ae_0_1_1 e_0.2.2.1 ce_0_1_1) e_0.2.2.1] (fun n0 v L => v = (B r) ∧ L = []) := by
 refine cal2 (n := 31) Try.func74 rfl rfl rfl rfl ?_
 intro S0 σ0 n0 hn0 H
 unfold M.spec_validEntry at h
 refine c_seq ?_
 refine rg ?_
 refine st_ex (ex_box (cs := [(I e_0.1), (I e_0.2.1), (Sl ae_0_1_1 e_0.2.2.1 ce_0_1_1), (I e_0.2.2.2)]) H hn0 rfl rfl) wn ?_
 rintro _ σ2 ⟨b1, rfl, H, -⟩
 refine st (v := (B false)) (rv_assign rfl) ?_
 refine w_end ?_
 refine q_then ?_
 refine c_seq ?_
 refine c_seq ?_
 refine rg ?_
 refine st (v := (pt b1 0)) (rv_fieldAddr (off := 0) (ft := 3) Try.underlying38 rfl ti3 rfl rfl) ?_
 have hc3 := H.cell (u := (I e_0.1)) (o' := 0) 0 0 rfl rfl rfl
 refine st (v := (I e_0.1)) (rv_load1 Try.underlying3 rfl rfl hc3) ?_
 refine st (v := (B (e_0.1 == 1))) (rv_eql (a := e_0.1) (b := 1) rfl rfl) ?_
 refine w_end ?_
 refine q_then ?_
 refine cd_cond (e_0.1 == 1) rfl (fun hb4 => ?_) (fun hb4 => ?_)
 ·replace h := bif_t hb4 h
  refine c_seq ?_
  refine rg ?_
  refine st (v := (pt b1 1)) (rv_fieldAddr (off := 1) (ft := 36) Try.underlying38 rfl ti36 rfl rfl) ?_
  have hc5 := H.part (us := [(I e_0.2.1), (Sl ae_0_1_1 e_0.2.2.1 ce_0_1_1), (I e_0.2.2.2)]) (o' := 1) 0 1 3 rfl rfl rfl rfl
  refine st (v := (.agg #[(I e_0.2.1), (Sl ae_0_1_1 e_0.2.2.1 ce_0_1_1), (I e_0.2.2.2)])) (rv_load (cs := [(I e_0.2.1), (Sl ae_0_1_1 e_0.2.2.1 ce_0_1_1), (I e_0.2.2.2)]) Try.underlying36 rfl ti36 rfl rfl hc5) ?_
  obtain ⟨r6, hx7, h'⟩ := bind_some h
  clear h
  have h := h'; clear h'
  have hc8 := c_spec_validItem (ax_0_1 := ae_0_1_1) (cx_0_1 := ce_0_1_1) hx7
  refine st_call (cx_call hc8 (ent_f hc8.fn rfl) hn0 (show Hp S0 σ0 _ ([Ch.ro 0 (Sl ae_0_1_1 e_0.2.2.1 ce_0_1_1) e_0.2.2.1] ++ [Ch.bx n0 b1 0 [(I e_0.1), (I e_0.2.1), (Sl ae_0_1_1 e_0.2.2.1 ce_0_1_1), (I e_0.2.2.2)] [] [], Ch.ro 0 (Sl ae_0_1_1 e_0.2.2.1 ce_0_1_1) e_0.2.2.1]) from (H.sel' [1, 0, 1] rfl rfl))) wn ?_
  rintro _ σ9 ⟨_, ⟨rfl, rfl⟩, H, -⟩
  replace H : Hp S0 σ0 σ9 [Ch.bx n0 b1 0 [(I e_0.1), (I e_0.2.1), (Sl ae_0_1_1 e_0.2.2.1 ce_0_1_1), (I e_0.2.2.2)] [] [], Ch.ro 0 (Sl ae_0_1_1 e_0.2.2.1 ce_0_1_1) e_0.2.2.1] := H
  refine st (v := (B r6)) (rv_assign rfl) ?_
  refine w_end ?_
  refine q_then ?_
  refine c_ret ?_
  refine q_then_r ?_
  obtain rfl := Option.some.inj h
  exact fin_ret (v := (B r6)) (results_ok Try.results74 (res_tmp (v := (B r6)) rfl res_nil) rfl) ⟨rfl, rfl⟩ (H.sel' [] rfl rfl)
 ·replace h := bif_f hb4 h
  refine c_skip ?_
  refine q_then ?_
  refine c_seq ?_
  refine rg ?_
  refine st (v := (pt b1 0)) (rv_fieldAddr (off := 0) (ft := 3) Try.underlying38 rfl ti3 rfl rfl) ?_
  have hc10 := H.cell (u := (I e_0.1)) (o' := 0) 0 0 rfl rfl rfl
  refine st (v := (I e_0.1)) (rv_load1 Try.underlying3 rfl rfl hc10) ?_
  refine st (v := (B (e_0.1 == 2))) (rv_eql (a := e_0.1) (b := 2) rfl rfl) ?_
  refine st (v := (B (e_0.1 == 2))) (rv_move rfl) ?_
  rcases Bool.eq_false_or_eq_true (e_0.1 == 2) with hb11 | hb11
  ·replace h := bif_t hb11 h
   refine st_g (v := (pt b1 1)) (congrArg some hb11) (rv_fieldAddr (off := 1) (ft := 36) Try.underlying38 rfl ti36 rfl rfl) ?_
   refine st_g (v := (pt b1 1)) (congrArg some hb11) (rv_fieldAddr (off := 0) (ft := 3) Try.underlying36 rfl ti3 rfl rfl) ?_
   have hc12 := H.cell (u := (I e_0.2.1)) (o' := 1) 0 1 rfl rfl rfl
   refine st_g (v := (I e_0.2.1)) (congrArg some hb11) (rv_load1 Try.underlying3 rfl rfl hc12) ?_
   obtain ⟨r13, hx14, h'⟩ := bind_some h
   clear h
   have h := h'; clear h'
   have hc15 := c_spec_inRange hx14
   refine st_call (cx_call hc15 (ent_f hc15.fn rfl) hn0 (show Hp S0 σ0 _ ([] ++ [Ch.bx n0 b1 0 [(I e_0.1), (I e_0.2.1), (Sl ae_0_1_1 e_0.2.2.1 ce_0_1_1), (I e_0.2.2.2)] [] [], Ch.ro 0 (Sl ae_0_1_1 e_0.2.2.1 ce_0_1_1) e_0.2.2.1]) from (H.sel' [0, 1] rfl rfl))) (wanted_yes rfl (by exact (congrArg some hb11))) ?_
   rintro _ σ16 ⟨_, ⟨rfl, rfl⟩, H, -⟩
   replace H : Hp S0 σ0 σ16 [Ch.bx n0 b1 0 [(I e_0.1), (I e_0.2.1), (Sl ae_0_1_1 e_0.2.2.1 ce_0_1_1), (I e_0.2.2.2)] [] [], Ch.ro 0 (Sl ae_0_1_1 e_0.2.2.1 ce_0_1_1) e_0.2.2.1] := H
   refine st (v := (B r13)) (rv_pick_t (congrArg B hb11) rfl) ?_
   refine st (v := (B r13)) (rv_move rfl) ?_
   rcases Bool.eq_false_or_eq_true r13 with hb17 | hb17
   ·replace h := bif_t hb17 h
    refine st_g (v := (pt b1 1)) (congrArg some hb17) (rv_fieldAddr (off := 1) (ft := 36) Try.underlying38 rfl ti36 rfl rfl) ?_
    refine st_g (v := (pt b1 2)) (congrArg some hb17) (rv_fieldAddr (off := 1) (ft := 34) Try.underlying36 rfl ti34 rfl rfl) ?_
    have hc18 := H.cell (u := (Sl ae_0_1_1 e_0.2.2.1 ce_0_1_1)) (o' := 2) 0 2 rfl rfl rfl
    refine st_g (v := (Sl ae_0_1_1 e_0.2.2.1 ce_0_1_1)) (congrArg some hb17) (rv_load1 Try.underlying34 rfl rfl hc18) ?_
    refine st_g (v := (I (e_0.2.2.1.length : Int))) (congrArg some hb17) (rv_len Try.underlying34 rfl) ?_
    refine st_g (v := (B ((e_0.2.2.1.length : Int) == 0))) (congrArg some hb17) (rv_eql (a := (e_0.2.2.1.length : Int)) (b := 0) rfl rfl) ?_
    refine st (v := (B ((e_0.2.2.1.length : Int) == 0))) (rv_pick_t (congrArg B hb17) rfl) ?_
    refine st (v := (B ((e_0.2.2.1.length : Int) == 0))) (rv_move rfl) ?_
    rcases Bool.eq_false_or_eq_true ((e_0.2.2.1.length : Int) == 0) with hb19 | hb19
    ·replace h := bif_t hb19 h
     refine st_g (v := (pt b1 1)) (congrArg some hb19) (rv_fieldAddr (off := 1) (ft := 36) Try.underlying38 rfl ti36 rfl rfl) ?_
     refine st_g (v := (pt b1 3)) (congrArg some hb19) (rv_fieldAddr (off := 2) (ft := 3) Try.underlying36 rfl ti3 rfl rfl) ?_
     have hc20 := H.cell (u := (I e_0.2.2.2)) (o' := 3) 0 3 rfl rfl rfl
     refine st_g (v := (I e_0.2.2.2)) (congrArg some hb19) (rv_load1 Try.underlying3 rfl rfl hc20) ?_
     refine st_g (v := (B (e_0.2.2.2 == 0))) (congrArg some hb19) (rv_eql (a := e_0.2.2.2) (b := 0) rfl rfl) ?_
     refine st (v := (B (e_0.2.2.2 == 0))) (rv_pick_t (congrArg B hb19) rfl) ?_
     refine st (v := (B (e_0.2.2.2 == 0))) (rv_assign rfl) ?_
     refine w_end ?_
     refine q_then ?_
     refine c_ret ?_
     obtain rfl := Option.some.inj h
     exact fin_ret (v := (B (e_0.2.2.2 == 0))) (results_ok Try.results74 (res_tmp (v := (B (e_0.2.2.2 == 0))) rfl res_nil) rfl) ⟨rfl, rfl⟩ (H.sel' [] rfl rfl)
    ·replace h := bif_f hb19 h
     refine st_skip (congrArg some hb19) ?_
     refine st_skip (congrArg some hb19) ?_
     refine st_skip (congrArg some hb19) ?_
     refine st_skip (congrArg some hb19) ?_
     refine st (v := (B false)) (rv_pick_f (congrArg B hb19) rfl) ?_
     refine st (v := (B false)) (rv_assign rfl) ?_
     refine w_end ?_
     refine q_then ?_
     refine c_ret ?_
     obtain rfl := Option.some.inj h
     exact fin_ret (v := (B false)) (results_ok Try.results74 (res_tmp (v := (B false)) rfl res_nil) rfl) ⟨rfl, rfl⟩ (H.sel' [] rfl rfl)
   ·replace h := bif_f hb17 h
    refine st_skip (congrArg some hb17) ?_
    refine st_skip (congrArg some hb17) ?_
    refine st_skip (congrArg some hb17) ?_
    refine st_skip (congrArg some hb17) ?_
    refine st_skip (congrArg some hb17) ?_
    refine st (v := (B false)) (rv_pick_f (congrArg B hb17) rfl) ?_
    refine st (v := (B false)) (rv_move rfl) ?_
    refine st_skip rfl ?_
    refine st_skip rfl ?_
    refine st_skip rfl ?_
    refine st_skip rfl ?_
    refine st (v := (B false)) (rv_pick_f rfl rfl) ?_
    refine st (v := (B false)) (rv_assign rfl) ?_
    refine w_end ?_
    refine q_then ?_
    refine c_ret ?_
    obtain rfl := Option.some.inj h
    exact fin_ret (v := (B false)) (results_ok Try.results74 (res_tmp (v := (B false)) rfl res_nil) rfl) ⟨rfl, rfl⟩ (H.sel' [] rfl rfl)
  ·replace h := bif_f hb11 h
   refine st_skip (congrArg some hb11) ?_
   refine st_skip (congrArg some hb11) ?_
   refine st_skip (congrArg some hb11) ?_
   refine st_skip (congrArg some hb11) ?_
   refine st (v := (B false)) (rv_pick_f (congrArg B hb11) rfl) ?_
   refine st (v := (B false)) (rv_move rfl) ?_
   refine st_skip rfl ?_
   refine st_skip rfl ?_
   refine st_skip rfl ?_
   refine st_skip rfl ?_
   refine st_skip rfl ?_
   refine st (v := (B false)) (rv_pick_f rfl rfl) ?_
   refine st (v := (B false)) (rv_move rfl) ?_
   refine st_skip rfl ?_
   refine st_skip rfl ?_
   refine st_skip rfl ?_
   refine st_skip rfl ?_
   refine st (v := (B false)) (rv_pick_f rfl rfl) ?_
   refine st (v := (B false)) (rv_assign rfl) ?_
   refine w_end ?_
   refine q_then ?_
   refine c_ret ?_
   obtain rfl := Option.some.inj h
   exact fin_ret (v := (B false)) (results_ok Try.results74 (res_tmp (v := (B false)) rfl res_nil) rfl) ⟨rfl, rfl⟩ (H.sel' [] rfl rfl)

theorem c_spec_validLog {list_0 : List (Int × (Int × (List Int) × Int))} {alist_0 : Option Addr} {clist_0 : Nat} {r : Bool} (h : M.spec_validLog list_0 = some r) :
    Cal2 Try.prog 43 [(Sl alist_0 list_0 clist_0)] [Ch.ro 0 (Sl alist_0 list_0 clist_0) list_0] (fun n0 v L => v = (B r) ∧ L = []) := by
 refine cal2 (n := 19) Try.func43 rfl rfl rfl rfl ?_
 intro S0 σ0 n0 hn0 H
 unfold M.spec_validLog at h
 refine c_seq ?_
 refine rg ?_
 refine st (v := (B false)) (rv_assign rfl) ?_
 refine w_end ?_
 refine q_then ?_
 refine c_seq ?_
 refine c_seq ?_
 refine rg ?_
 refine st (v := (I 0)) (rv_assign rfl) ?_
 refine w_end ?_
 refine q_then ?_
 obtain ⟨o1, hj, h'⟩ := bind_some h
 clear h
 refine c_cut (fun e a w => (∃ t, o1 = (.inl t) ∧ e = .normal ∧ ∃ (ρ : Nat → Value) (σ : St), a = fr 19 (updL ρ [(0, (Sl alist_0 list_0 clist_0))]) ∧ w = σ.w ∧ Hp S0 σ0 σ [Ch.ro 0 (Sl alist_0 list_0 clist_0) list_0]) ∨ (∃ t, o1 = (.inr t) ∧ e = .ret ∧ ∃ (ρ : Nat → Value) (σ : St), a = fr 19 (updL ρ [(2, (B t))]) ∧ w = σ.w ∧ Hp S0 σ0 σ [])) ?_ ?_
 ·clear h'
  rename _ = some o1 => h
  refine c_blk ?_
  refine wp_loopM _ h (fun s2 a w => ∃ (ρ : Nat → Value) (σ : St), a = fr 19 (updL ρ [(0, (Sl alist_0 list_0 clist_0)), (3, (I s2))]) ∧ w = σ.w ∧ Hp S0 σ0 σ [Ch.ro 0 (Sl alist_0 list_0 clist_0) list_0]) ⟨_, σ0, fr_join ⟨rfl, rfl, trivial⟩, rfl, H.sel' [0] rfl rfl⟩ ?_
  clear h H
  rintro s2 a w o ⟨ρ, σ3, rfl, rfl, H⟩ h hres
  refine c_seq ?_
  refine c_seq ?_
  refine rg ?_
  refine st (v := (I s2)) (rv_move rfl) ?_
  refine st (v := (Sl alist_0 list_0 clist_0)) (rv_move rfl) ?_
  refine st (v := (I (list_0.length : Int))) (rv_len Try.underlying23 rfl) ?_
  refine st (v := (B (decide (s2 < (list_0.length : Int))))) (rv_lss (a := s2) (b := (list_0.length : Int)) rfl rfl) ?_
  refine w_end ?_
  refine q_then ?_
  refine cd_cond (decide (s2 < (list_0.length : Int))) rfl (fun hb4 => ?_) (fun hb4 => ?_)
  ·replace h := bif_t hb4 h
   refine c_skip ?_
   refine q_then ?_
   refine c_seq ?_
   refine c_blk ?_
   refine c_seq ?_
   refine rg ?_
   refine st (v := (Sl alist_0 list_0 clist_0)) (rv_move rfl) ?_
   refine st (v := (I s2)) (rv_move rfl) ?_
   obtain ⟨x5, hx6, h'⟩ := bind_some h
   clear h
   have h := h'; clear h'
   obtain ⟨b8, o9, hi7, -⟩ := (H.ro 0 rfl).ix hx6
   refine st (v := (pt b8 o9)) (rv_ix Try.underlying23 ti38 rfl rfl hi7) ?_
   obtain ⟨_, ⟨_, _, rfl, rfl, ⟨_, _, rfl, rfl, ⟨_, _, rfl, ⟨_, rfl, hR14⟩, rfl⟩⟩⟩, hl10, hc11⟩ := ((H.ro 0 rfl).at hx6 hi7).cells
   obtain ⟨a12, c13, rfl⟩ := hR14.isSl
   replace H := H.add (d := Ch.ro 0 (Sl a12 x5.2.2.1 c13) x5.2.2.1) hR14 (fun _ h => h)
   clear hR14
   refine st (v := (.agg #[(I x5.1), (I x5.2.1), (Sl a12 x5.2.2.1 c13), (I x5.2.2.2)])) (rv_load Try.underlying38 rfl ti38 rfl hl10 hc11) ?_
   obtain ⟨r15, hx16, h'⟩ := bind_some h
   clear h
   have h := h'; clear h'
   have hc17 := c_spec_validEntry (ae_0_1_1 := a12) (ce_0_1_1 := c13) hx16
   refine st_call (cx_call hc17 (ent_f hc17.fn rfl) hn0 (show Hp S0 σ0 _ ([Ch.ro 0 (Sl a12 x5.2.2.1 c13) x5.2.2.1] ++ [Ch.ro 0 (Sl a12 x5.2.2.1 c13) x5.2.2.1, Ch.ro 0 (Sl alist_0 list_0 clist_0) list_0]) from (H.sel' [0, 0, 1] rfl rfl))) wn ?_
   rintro _ σ18 ⟨_, ⟨rfl, rfl⟩, H, -⟩
   replace H : Hp S0 σ0 σ18 [Ch.ro 0 (Sl a12 x5.2.2.1 c13) x5.2.2.1, Ch.ro 0 (Sl alist_0 list_0 clist_0) list_0] := H
   refine st (v := (B (!r15))) (rv_not rfl) ?_
   refine w_end ?_
   refine q_then ?_
   refine cd_cond (!r15) rfl (fun hb19 => ?_) (fun hb19 => ?_)
   ·replace h := bif_t hb19 h
    refine c_seq ?_
    refine rg ?_
    refine st (v := (B false)) (rv_assign rfl) ?_
    refine w_end ?_
    refine q_then ?_
    refine c_ret ?_
    refine q_blk_r ?_
    refine q_then_r ?_
    refine q_then_r ?_
    refine q_blk_r ?_
    obtain rfl := Option.some.inj h
    obtain rfl := hres _ rfl
    exact .inr (⟨_, rfl, rfl, _, σ18, fr_join ⟨rfl, trivial⟩, rfl, H.sel' [] rfl rfl⟩)
   ·replace h := bif_f hb19 h
    refine c_skip ?_
    refine q_blk ?_
    refine q_then ?_
    refine rg ?_
    refine st (v := (I s2)) (rv_move rfl) ?_
    refine st (v := (I (w64 (s2 + 1)))) (rv_add (a := s2) (b := 1) rfl rfl) ?_
    refine st (v := (I (w64 (s2 + 1)))) (rv_assign rfl) ?_
    refine w_end ?_
    refine q_then ?_
    obtain rfl := Option.some.inj h
    exact ⟨_, rfl, _, σ18, fr_join ⟨rfl, rfl, trivial⟩, rfl, H.sel' [1] rfl rfl⟩
  ·replace h := bif_f hb4 h
   refine c_exit ?_
   refine q_then_x ?_
   refine q_then_x ?_
   refine q_blk_hit ?_
   obtain rfl := Option.some.inj h
   obtain rfl := hres _ rfl
   exact .inl ⟨_, rfl, rfl, _, σ3, fr_join ⟨rfl, trivial⟩, rfl, H.sel' [0] rfl rfl⟩
 ·clear hj
  have h := h'
  clear h' H
  rintro e a w (⟨t20, rfl, rfl, ρ, σ21, rfl, rfl, H⟩ | ⟨t22, rfl, rfl, ρ, σ23, rfl, rfl, H⟩)
  ·replace h := selim_l h
   refine q_then ?_
   refine c_seq ?_
   refine rg ?_
   refine st (v := (Sl alist_0 list_0 clist_0)) (rv_move rfl) ?_
   refine st (v := (I (list_0.length : Int))) (rv_len Try.underlying23 rfl) ?_
   refine st (v := (B (decide ((list_0.length : Int) ≤ 32)))) (rv_leq (a := (list_0.length : Int)) (b := 32) rfl rfl) ?_
   refine st (v := (B (decide ((list_0.length : Int) ≤ 32)))) (rv_assign rfl) ?_
   refine w_end ?_
   refine q_then ?_
   refine c_ret ?_
   obtain rfl := Option.some.inj h
   exact fin_ret (v := (B (decide ((list_0.length : Int) ≤ 32)))) (results_ok Try.results43 (res_tmp (v := (B (decide ((list_0.length : Int) ≤ 32)))) rfl res_nil) rfl) ⟨rfl, rfl⟩ (H.sel' [] rfl rfl)
  ·replace h := selim_r h
   refine q_then_r ?_
   obtain rfl := Option.some.inj h
   exact fin_ret (v := (B t22)) (results_ok Try.results43 (res_tmp (v := (B t22)) rfl res_nil) rfl) ⟨rfl, rfl⟩ (H.sel' [] rfl rfl)

theorem c_spec_copyItem {x_0 : Int × (List Int) × Int} {ax_0_1 : Option Addr} {cx_0_1 : Nat} {r : (Int × (List Int) × Int)} (h : M.spec_copyItem x_0 = some r) :
    Cal2 Try.prog 61 [(.agg #[(I x_0.1), (Sl ax_0_1 x_0.2.1 cx_0_1), (I x_0.2.2)])] [Ch.ro 0 (Sl ax_0_1 x_0.2.1 cx_0_1) x_0.2.1] (fun n0 v L => ∃ (az1 : Option Addr), ∃ (cz2 : Nat), v = (.agg #[(I r.1), (Sl az1 r.2.1 cz2), (I r.2.2)]) ∧ L = [Ch.own n0 n0 (Sl az1 r.2.1 cz2) r.2.1]) := by
 refine cal2 (n := 11) Try.func61 rfl rfl rfl rfl ?_
 intro S0 σ0 n0 hn0 H
 unfold M.spec_copyItem at h
 refine c_seq ?_
 refine rg ?_
 refine st_ex (ex_box (cs := [(I x_0.1), (Sl ax_0_1 x_0.2.1 cx_0_1), (I x_0.2.2)]) H hn0 rfl rfl) wn ?_
 rintro _ σ2 ⟨b1, rfl, H, -⟩
 refine st_ex (ex_alloc (cs := [(I 0), (.slice none 0 0), (I 0)]) H hn0 ti36 rfl) wn ?_
 rintro _ σ4 ⟨b3, rfl, H, -⟩
 refine w_end ?_
 refine q_then ?_
 refine c_seq ?_
 have hc5 := H.cell (u := (I x_0.1)) (o' := 0) 1 0 rfl rfl rfl
 have hc6 := H.cell (u := (Sl ax_0_1 x_0.2.1 cx_0_1)) (o' := 1) 1 1 rfl rfl rfl
 obtain ⟨r7, hx8, h'⟩ := bind_some h
 clear h
 have h := h'; clear h'
 have hc9 := c_spec_copyInts (alist_0 := ax_0_1) (clist_0 := cx_0_1) hx8
 have hc12 := H.cell (u := (I x_0.2.2)) (o' := 2) 1 2 rfl rfl rfl
 have Hs := H
 refine rg2 (σ := σ4) (Nm := (Option Addr) × (Nat)) 7 [4] [[false], [true]] [[(0, 0), (1, 1)], [(0, 0), (1, 1)], [(0, 0)], [(0, 0)], [(0, 1)], [(0, 0), (1, 1)], [(0, 0), (1, 1)]] 1 [fun ((a10, c11) : (Option Addr) × (Nat)) => fun σm => Hp S0 σ0 σm [Ch.bx n0 b3 0 [(I 0), (.slice none 0 0), (I 0)] [] [], Ch.bx n0 b1 0 [(I x_0.1), (Sl ax_0_1 x_0.2.1 cx_0_1), (I x_0.2.2)] [] [], Ch.ro 0 (Sl ax_0_1 x_0.2.1 cx_0_1) x_0.2.1] ∧ Md (cov []) σ4 σm, fun ((a10, c11) : (Option Addr) × (Nat)) => fun σm => Hp S0 σ0 σm [Ch.own n0 n0 (Sl a10 r7 c11) r7, Ch.bx n0 b3 0 [(I 0), (.slice none 0 0), (I 0)] [] [], Ch.bx n0 b1 0 [(I x_0.1), (Sl ax_0_1 x_0.2.1 cx_0_1), (I x_0.2.2)] [] [], Ch.ro 0 (Sl ax_0_1 x_0.2.1 cx_0_1) x_0.2.1] ∧ Md (cov []) σ4 σm] [fun ((a10, c11) : (Option Addr) × (Nat)) => (pt b1 0), fun ((a10, c11) : (Option Addr) × (Nat)) => (I x_0.1), fun ((a10, c11) : (Option Addr) × (Nat)) => (pt b1 1), fun ((a10, c11) : (Option Addr) × (Nat)) => (Sl ax_0_1 x_0.2.1 cx_0_1), fun ((a10, c11) : (Option Addr) × (Nat)) => (Sl a10 r7 c11), fun ((a10, c11) : (Option Addr) × (Nat)) => (pt b1 2), fun ((a10, c11) : (Option Addr) × (Nat)) => (I x_0.2.2)] (none, 0) (by kernel_rfl) (by kernel_rfl) ?_ ?_ ?_
 ·intro σm m0
  exact ⟨H.grow (m0.mono fun _ h => h.elim), m0⟩
 ·refine ac rfl (by
    intro k; rintro ⟨a10, c11⟩ ρ σm hJ hoff hdep
    have e1 := look_off (N := 11) (hoff 1 rfl) rfl
    exact dp_v (v := (pt b1 0)) wn (rv_fieldAddr (off := 0) (ft := 3) Try.underlying36 rfl ti3 rfl e1) rfl hJ) ?_
  refine all_cons (by
    refine ⟨?_, ?_⟩
    ·rintro ⟨a10, c11⟩ ρ σm hJ hoff hdep
     have e3 := hdep 0 rfl rfl 3 rfl
     obtain ⟨H, m⟩ := id hJ
     have hc5 := H.cell (u := (I x_0.1)) (o' := 0) 1 0 rfl rfl rfl
     exact dp_v (v := (I x_0.1)) wn (rv_load1 Try.underlying3 rfl e3 hc5) rfl hJ
    refine ⟨?_, ?_⟩
    ·rintro ⟨a10, c11⟩ ρ σm hJ hoff hdep
     have e3 := hdep 0 rfl rfl 3 rfl
     obtain ⟨H, m⟩ := id hJ
     have hc5 := H.cell (u := (I x_0.1)) (o' := 0) 2 0 rfl rfl rfl
     exact dp_v (v := (I x_0.1)) wn (rv_load1 Try.underlying3 rfl e3 hc5) rfl hJ
    trivial) ?_
  refine ac rfl (by
    intro k; rintro ⟨a10, c11⟩ ρ σm hJ hoff hdep
    have e1 := look_off (N := 11) (hoff 1 rfl) rfl
    exact dp_v (v := (pt b1 1)) wn (rv_fieldAddr (off := 1) (ft := 34) Try.underlying36 rfl ti34 rfl e1) rfl hJ) ?_
  refine all_cons (by
    refine ⟨?_, ?_⟩
    ·rintro ⟨a10, c11⟩ ρ σm hJ hoff hdep
     have e5 := hdep 2 rfl rfl 5 rfl
     obtain ⟨H, m⟩ := id hJ
     have hc6 := H.cell (u := (Sl ax_0_1 x_0.2.1 cx_0_1)) (o' := 1) 1 1 rfl rfl rfl
     exact dp_v (v := (Sl ax_0_1 x_0.2.1 cx_0_1)) wn (rv_load1 Try.underlying34 rfl e5 hc6) rfl hJ
    trivial) ?_
  refine all_cons (by
    refine ⟨?_, ?_⟩
    ·rintro ⟨a10, c11⟩ ρ σm hJ hoff hdep
     have e6 : look 11 ρ 6 = (Sl ax_0_1 x_0.2.1 cx_0_1) := hdep 3 rfl rfl 6 rfl
     obtain ⟨H, m⟩ := id hJ
     refine dp_cx wn (cx_call hc9 (ent_f hc9.fn (by show [look 11 ρ 6] = _; rw [e6])) hn0 (show Hp S0 σ0 _ ([Ch.ro 0 (Sl ax_0_1 x_0.2.1 cx_0_1) x_0.2.1] ++ [Ch.bx n0 b3 0 [(I 0), (.slice none 0 0), (I 0)] [] [], Ch.bx n0 b1 0 [(I x_0.1), (Sl ax_0_1 x_0.2.1 cx_0_1), (I x_0.2.2)] [] [], Ch.ro 0 (Sl ax_0_1 x_0.2.1 cx_0_1) x_0.2.1]) from (H.sel' [2, 0, 1, 2] rfl rfl))) ?_
     rintro _ σq ⟨_, ⟨a10x, c11x, rfl, rfl⟩, H2, m2⟩
     exact ⟨_, (a10x, c11x), rfl, rfl, ⟨H2.sel' [0, 1, 2, 3] rfl rfl, m.comp0 (m2.mono (fun i h => by simp [cov, Ch.ro] at h))⟩, stab [0, 1, 2, 3, 5, 6] (by kernel_rfl) ⟨rfl, rfl, rfl, rfl, rfl, rfl, trivial⟩⟩
    trivial) ?_
  refine ac rfl (by
    intro k; rintro ⟨a10, c11⟩ ρ σm hJ hoff hdep
    have e1 := look_off (N := 11) (hoff 1 rfl) rfl
    exact dp_v (v := (pt b1 2)) wn (rv_fieldAddr (off := 2) (ft := 3) Try.underlying36 rfl ti3 rfl e1) rfl hJ) ?_
  refine all_cons (by
    refine ⟨?_, ?_⟩
    ·rintro ⟨a10, c11⟩ ρ σm hJ hoff hdep
     have e8 := hdep 5 rfl rfl 8 rfl
     obtain ⟨H, m⟩ := id hJ
     have hc12 := H.cell (u := (I x_0.2.2)) (o' := 2) 1 2 rfl rfl rfl
     exact dp_v (v := (I x_0.2.2)) wn (rv_load1 Try.underlying3 rfl e8 hc12) rfl hJ
    refine ⟨?_, ?_⟩
    ·rintro ⟨a10, c11⟩ ρ σm hJ hoff hdep
     have e8 := hdep 5 rfl rfl 8 rfl
     obtain ⟨H, m⟩ := id hJ
     have hc12 := H.cell (u := (I x_0.2.2)) (o' := 2) 2 2 rfl rfl rfl
     exact dp_v (v := (I x_0.2.2)) wn (rv_load1 Try.underlying3 rfl e8 hc12) rfl hJ
    trivial) ?_
  exact all_nil
 ·rintro ⟨a10, c11⟩ ρ σ13 hJ hoff hrel
  have e2 := look_off (N := 11) (hoff 2 rfl) rfl
  have e4 := hrel 1 rfl 4 rfl
  have e7 := hrel 4 rfl 7 rfl
  have e9 := hrel 6 rfl 9 rfl
  obtain ⟨H, -⟩ := (show Hp S0 σ0 σ13 [Ch.own n0 n0 (Sl a10 r7 c11) r7, Ch.bx n0 b3 0 [(I 0), (.slice none 0 0), (I 0)] [] [], Ch.bx n0 b1 0 [(I x_0.1), (Sl ax_0_1 x_0.2.1 cx_0_1), (I x_0.2.2)] [] [], Ch.ro 0 (Sl ax_0_1 x_0.2.1 cx_0_1) x_0.2.1] ∧ Md (cov []) σ4 σ13 from hJ)
  clear hJ Hs
  rw [fr_lookL (L := [(2, (pt b3 0)), (4, (I x_0.1)), (7, (Sl a10 r7 c11)), (9, (I x_0.2.2))]) ⟨e2, e4, e7, e9, trivial⟩]
  clear hoff hrel e2 e4 e7 e9
  refine st (v := (.agg #[(I x_0.1), (Sl a10 r7 c11), (I x_0.2.2)])) (rv_build (ps := [(0, (I x_0.1)), (1, (Sl a10 r7 c11)), (2, (I x_0.2.2))]) Try.underlying36 ti36 (bp36 Try.underlying36) rfl (by kernel_rfl)) ?_
  refine st_exS (ex_store_box (k := 0) (cs := [(I 0), (.slice none 0 0), (I 0)]) (vs := [(I x_0.1), (Sl a10 r7 c11), (I x_0.2.2)]) (cs' := [(I x_0.1), (Sl a10 r7 c11), (I x_0.2.2)]) H (i := 1) rfl ti36 rfl rfl rfl rfl rfl (Nat.le_of_ble_eq_true rfl) (by simp [plain]) rfl) wn ?_
  rintro σ14 ⟨H, -⟩
  refine w_end ?_
  refine q_then ?_
  refine c_ret ?_
  obtain rfl := Option.some.inj h
  exact fin_ret (v := (.agg #[(I x_0.1), (Sl a10 r7 c11), (I x_0.2.2)])) (results_ok Try.results61 (res_cell rfl (run_cellRes (cs := [(I x_0.1), (Sl a10 r7 c11), (I x_0.2.2)]) Try.underlying36 rfl ti36 rfl (H.cells 0 rfl)) res_nil) rfl) ⟨a10, c11, rfl, rfl⟩ (H.sel' [1] rfl rfl)

theorem c_spec_copyEntry {e_0 : Int × (Int × (List Int) × Int)} {ae_0_1_1 : Option Addr} {ce_0_1_1 : Nat} {r : (Int × (Int × (List Int) × Int))} (h : M.spec_copyEntry e_0 = some r) :
    Cal2 Try.prog 55 [(.agg #[(I e_0.1), (I e_0.2.1), (Sl ae_0_1_1 e_0.2.2.1 ce_0_1_1), (I e_0.2.2.2)])] [Ch.ro 0 (Sl ae_0_1_1 e_0.2.2.1 ce_0_1_1) e_0.2.2.1] (fun n0 v L => ∃ (az1 : Option Addr), ∃ (cz2 : Nat), v = (.agg #[(I r.1), (I r.2.1), (Sl az1 r.2.2.1 cz2), (I r.2.2.2)]) ∧ L = [Ch.own n0 n0 (Sl az1 r.2.2.1 cz2) r.2.2.1]) := by
 refine cal2 (n := 9) Try.func55 rfl rfl rfl rfl ?_
 intro S0 σ0 n0 hn0 H
 unfold M.spec_copyEntry at h
 refine c_seq ?_
 refine rg ?_
 refine st_ex (ex_box (cs := [(I e_0.1), (I e_0.2.1), (Sl ae_0_1_1 e_0.2.2.1 ce_0_1_1), (I e_0.2.2.2)]) H hn0 rfl rfl) wn ?_
 rintro _ σ2 ⟨b1, rfl, H, -⟩
 refine st_ex (ex_alloc (cs := [(I 0), (I 0), (.slice none 0 0), (I 0)]) H hn0 ti38 rfl) wn ?_
 rintro _ σ4 ⟨b3, rfl, H, -⟩
 refine w_end ?_
 refine q_then ?_
 refine c_seq ?_
 have hc5 := H.cell (u := (I e_0.1)) (o' := 0) 1 0 rfl rfl rfl
 have hc6 := H.part (us := [(I e_0.2.1), (Sl ae_0_1_1 e_0.2.2.1 ce_0_1_1), (I e_0.2.2.2)]) (o' := 1) 1 1 3 rfl rfl rfl rfl
 obtain ⟨r7, hx8, h'⟩ := bind_some h
 clear h
 have h := h'; clear h'
 have hc9 := c_spec_copyItem (ax_0_1 := ae_0_1_1) (cx_0_1 := ce_0_1_1) hx8
 have Hs := H
 refine rg2 (σ := σ4) (Nm := (Option Addr) × (Nat)) 5 [4] [[false], [true]] [[(0, 0), (1, 1)], [(0, 0), (1, 1)], [(0, 0)], [(0, 0)], [(0, 1)]] 1 [fun ((a10, c11) : (Option Addr) × (Nat)) => fun σm => Hp S0 σ0 σm [Ch.bx n0 b3 0 [(I 0), (I 0), (.slice none 0 0), (I 0)] [] [], Ch.bx n0 b1 0 [(I e_0.1), (I e_0.2.1), (Sl ae_0_1_1 e_0.2.2.1 ce_0_1_1), (I e_0.2.2.2)] [] [], Ch.ro 0 (Sl ae_0_1_1 e_0.2.2.1 ce_0_1_1) e_0.2.2.1] ∧ Md (cov []) σ4 σm, fun ((a10, c11) : (Option Addr) × (Nat)) => fun σm => Hp S0 σ0 σm [Ch.own n0 n0 (Sl a10 r7.2.1 c11) r7.2.1, Ch.bx n0 b3 0 [(I 0), (I 0), (.slice none 0 0), (I 0)] [] [], Ch.bx n0 b1 0 [(I e_0.1), (I e_0.2.1), (Sl ae_0_1_1 e_0.2.2.1 ce_0_1_1), (I e_0.2.2.2)] [] [], Ch.ro 0 (Sl ae_0_1_1 e_0.2.2.1 ce_0_1_1) e_0.2.2.1] ∧ Md (cov []) σ4 σm] [fun ((a10, c11) : (Option Addr) × (Nat)) => (pt b1 0), fun ((a10, c11) : (Option Addr) × (Nat)) => (I e_0.1), fun ((a10, c11) : (Option Addr) × (Nat)) => (pt b1 1), fun ((a10, c11) : (Option Addr) × (Nat)) => (.agg #[(I e_0.2.1), (Sl ae_0_1_1 e_0.2.2.1 ce_0_1_1), (I e_0.2.2.2)]), fun ((a10, c11) : (Option Addr) × (Nat)) => (.agg #[(I r7.1), (Sl a10 r7.2.1 c11), (I r7.2.2)])] (none, 0) (by kernel_rfl) (by kernel_rfl) ?_ ?_ ?_
 ·intro σm m0
  exact ⟨H.grow (m0.mono fun _ h => h.elim), m0⟩
 ·refine ac rfl (by
    intro k; rintro ⟨a10, c11⟩ ρ σm hJ hoff hdep
    have e1 := look_off (N := 9) (hoff 1 rfl) rfl
    exact dp_v (v := (pt b1 0)) wn (rv_fieldAddr (off := 0) (ft := 3) Try.underlying38 rfl ti3 rfl e1) rfl hJ) ?_
  refine all_cons (by
    refine ⟨?_, ?_⟩
    ·rintro ⟨a10, c11⟩ ρ σm hJ hoff hdep
     have e3 := hdep 0 rfl rfl 3 rfl
     obtain ⟨H, m⟩ := id hJ
     have hc5 := H.cell (u := (I e_0.1)) (o' := 0) 1 0 rfl rfl rfl
     exact dp_v (v := (I e_0.1)) wn (rv_load1 Try.underlying3 rfl e3 hc5) rfl hJ
    refine ⟨?_, ?_⟩
    ·rintro ⟨a10, c11⟩ ρ σm hJ hoff hdep
     have e3 := hdep 0 rfl rfl 3 rfl
     obtain ⟨H, m⟩ := id hJ
     have hc5 := H.cell (u := (I e_0.1)) (o' := 0) 2 0 rfl rfl rfl
     exact dp_v (v := (I e_0.1)) wn (rv_load1 Try.underlying3 rfl e3 hc5) rfl hJ
    trivial) ?_
  refine ac rfl (by
    intro k; rintro ⟨a10, c11⟩ ρ σm hJ hoff hdep
    have e1 := look_off (N := 9) (hoff 1 rfl) rfl
    exact dp_v (v := (pt b1 1)) wn (rv_fieldAddr (off := 1) (ft := 36) Try.underlying38 rfl ti36 rfl e1) rfl hJ) ?_
  refine all_cons (by
    refine ⟨?_, ?_⟩
    ·rintro ⟨a10, c11⟩ ρ σm hJ hoff hdep
     have e5 := hdep 2 rfl rfl 5 rfl
     obtain ⟨H, m⟩ := id hJ
     have hc6 := H.part (us := [(I e_0.2.1), (Sl ae_0_1_1 e_0.2.2.1 ce_0_1_1), (I e_0.2.2.2)]) (o' := 1) 1 1 3 rfl rfl rfl rfl
     exact dp_v (v := (.agg #[(I e_0.2.1), (Sl ae_0_1_1 e_0.2.2.1 ce_0_1_1), (I e_0.2.2.2)])) wn (rv_load (cs := [(I e_0.2.1), (Sl ae_0_1_1 e_0.2.2.1 ce_0_1_1), (I e_0.2.2.2)]) Try.underlying36 rfl ti36 e5 rfl hc6) rfl hJ
    trivial) ?_
  refine all_cons (by
    refine ⟨?_, ?_⟩
    ·rintro ⟨a10, c11⟩ ρ σm hJ hoff hdep
     have e6 : look 9 ρ 6 = (.agg #[(I e_0.2.1), (Sl ae_0_1_1 e_0.2.2.1 ce_0_1_1), (I e_0.2.2.2)]) := hdep 3 rfl rfl 6 rfl
     obtain ⟨H, m⟩ := id hJ
     refine dp_cx wn (cx_call hc9 (ent_f hc9.fn (by show [look 9 ρ 6] = _; rw [e6])) hn0 (show Hp S0 σ0 _ ([Ch.ro 0 (Sl ae_0_1_1 e_0.2.2.1 ce_0_1_1) e_0.2.2.1] ++ [Ch.bx n0 b3 0 [(I 0), (I 0), (.slice none 0 0), (I 0)] [] [], Ch.bx n0 b1 0 [(I e_0.1), (I e_0.2.1), (Sl ae_0_1_1 e_0.2.2.1 ce_0_1_1), (I e_0.2.2.2)] [] [], Ch.ro 0 (Sl ae_0_1_1 e_0.2.2.1 ce_0_1_1) e_0.2.2.1]) from (H.sel' [2, 0, 1, 2] rfl rfl))) ?_
     rintro _ σq ⟨_, ⟨a10x, c11x, rfl, rfl⟩, H2, m2⟩
     exact ⟨_, (a10x, c11x), rfl, rfl, ⟨H2.sel' [0, 1, 2, 3] rfl rfl, m.comp0 (m2.mono (fun i h => by simp [cov, Ch.ro] at h))⟩, stab [0, 1, 2, 3] (by kernel_rfl) ⟨rfl, rfl, rfl, rfl, trivial⟩⟩
    trivial) ?_
  exact all_nil
 ·rintro ⟨a10, c11⟩ ρ σ12 hJ hoff hrel
  have e2 := look_off (N := 9) (hoff 2 rfl) rfl
  have e4 := hrel 1 rfl 4 rfl
  have e7 := hrel 4 rfl 7 rfl
  obtain ⟨H, -⟩ := (show Hp S0 σ0 σ12 [Ch.own n0 n0 (Sl a10 r7.2.1 c11) r7.2.1, Ch.bx n0 b3 0 [(I 0), (I 0), (.slice none 0 0), (I 0)] [] [], Ch.bx n0 b1 0 [(I e_0.1), (I e_0.2.1), (Sl ae_0_1_1 e_0.2.2.1 ce_0_1_1), (I e_0.2.2.2)] [] [], Ch.ro 0 (Sl ae_0_1_1 e_0.2.2.1 ce_0_1_1) e_0.2.2.1] ∧ Md (cov []) σ4 σ12 from hJ)
  clear hJ Hs
  rw [fr_lookL (L := [(2, (pt b3 0)), (4, (I e_0.1)), (7, (.agg #[(I r7.1), (Sl a10 r7.2.1 c11), (I r7.2.2)]))]) ⟨e2, e4, e7, trivial⟩]
  clear hoff hrel e2 e4 e7
  refine st (v := (.agg #[(I e_0.1), (I r7.1), (Sl a10 r7.2.1 c11), (I r7.2.2)])) (rv_build (ps := [(0, (I e_0.1)), (1, (.agg #[(I r7.1), (Sl a10 r7.2.1 c11), (I r7.2.2)]))]) Try.underlying38 ti38 (bp38 Try.underlying38) rfl (by kernel_rfl)) ?_
  refine st_exS (ex_store_box (k := 0) (cs := [(I 0), (I 0), (.slice none 0 0), (I 0)]) (vs := [(I e_0.1), (I r7.1), (Sl a10 r7.2.1 c11), (I r7.2.2)]) (cs' := [(I e_0.1), (I r7.1), (Sl a10 r7.2.1 c11), (I r7.2.2)]) H (i := 1) rfl ti38 rfl rfl rfl rfl rfl (Nat.le_of_ble_eq_true rfl) (by simp [plain]) rfl) wn ?_
  rintro σ13 ⟨H, -⟩
  refine w_end ?_
  refine q_then ?_
  refine c_ret ?_
  obtain rfl := Option.some.inj h
  exact fin_ret (v := (.agg #[(I e_0.1), (I r7.1), (Sl a10 r7.2.1 c11), (I r7.2.2)])) (results_ok Try.results55 (res_cell rfl (run_cellRes (cs := [(I e_0.1), (I r7.1), (Sl a10 r7.2.1 c11), (I r7.2.2)]) Try.underlying38 rfl ti38 rfl (H.cells 0 rfl)) res_nil) rfl) ⟨a10, c11, rfl, rfl⟩ (H.sel' [1] rfl rfl)

end Go.Vs
