/- The functions compute what their models say. -/
import Derived.Test.YtgokepoinohioacKExactPutItemC2
set_option linter.unusedVariables false
set_option linter.unusedSimpArgs false
set_option maxRecDepth 20000
namespace Go.Vs
open Go Go.Proofs
attribute [local irreducible] Code.wp Code.wpIn wpList wpListIn wpQuiet Calls CallsIn

theorem c_laws_FnExactPutItem {aList_0 : List (Int × (List Int) × Int)} {aX_1 : Int × (List Int) × Int} {aaList_0 : Option Addr} {caList_0 : Nat} {aaX_1_1 : Option Addr} {caX_1_1 : Nat} {r : Bool} (h : M.laws_FnExactPutItem aList_0 aX_1 = some r) :
    Cal2 Try.prog 8 [(Sl aaList_0 aList_0 caList_0), (.agg #[(I aX_1.1), (Sl aaX_1_1 aX_1.2.1 caX_1_1), (I aX_1.2.2)])] [Ch.ro 0 (Sl aaList_0 aList_0 caList_0) aList_0, Ch.ro 0 (Sl aaX_1_1 aX_1.2.1 caX_1_1) aX_1.2.1] (fun n0 v L => v = (B r) ∧ L = []) := by
 refine cal2 (n := 119) Try.func8 rfl rfl rfl rfl ?_
 intro S0 σ0 n0 hn0 H
 unfold M.laws_FnExactPutItem at h
 refine c_seq ?_
 refine rg ?_
 refine st_ex (ex_box (cs := [(I aX_1.1), (Sl aaX_1_1 aX_1.2.1 caX_1_1), (I aX_1.2.2)]) H hn0 rfl rfl) wn ?_
 rintro _ σ2 ⟨b1, rfl, H, -⟩
 refine st (v := (B false)) (rv_assign rfl) ?_
 refine w_end ?_
 refine q_then ?_
 refine c_seq ?_
 refine rg ?_
 refine st (v := (I 1048576)) (rv_assign rfl) ?_
 refine w_end ?_
 refine q_then ?_
 refine c_seq ?_
 refine rg ?_
 refine st (v := (Sl aaList_0 aList_0 caList_0)) (rv_move rfl) ?_
 refine st (v := (I 1048576)) (rv_move rfl) ?_
 obtain ⟨r3, hx4, h'⟩ := bind_some h
 clear h
 have h := h'; clear h'
 have hc5 := c_laws_szItemS (aa_0 := aaList_0) (ca_0 := caList_0) hx4
 refine st_call (cx_call hc5 (ent_f hc5.fn rfl) hn0 (show Hp S0 σ0 _ ([Ch.ro 0 (Sl aaList_0 aList_0 caList_0) aList_0] ++ [Ch.bx n0 b1 0 [(I aX_1.1), (Sl aaX_1_1 aX_1.2.1 caX_1_1), (I aX_1.2.2)] [] [], Ch.ro 0 (Sl aaList_0 aList_0 caList_0) aList_0, Ch.ro 0 (Sl aaX_1_1 aX_1.2.1 caX_1_1) aX_1.2.1]) from (H.sel' [1, 0, 1, 2] rfl rfl))) wn ?_
 rintro _ σ6 ⟨_, ⟨rfl, rfl⟩, H, -⟩
 replace H : Hp S0 σ0 σ6 [Ch.bx n0 b1 0 [(I aX_1.1), (Sl aaX_1_1 aX_1.2.1 caX_1_1), (I aX_1.2.2)] [] [], Ch.ro 0 (Sl aaList_0 aList_0 caList_0) aList_0, Ch.ro 0 (Sl aaX_1_1 aX_1.2.1 caX_1_1) aX_1.2.1] := H
 refine st (v := (I r3)) (rv_assign rfl) ?_
 refine w_end ?_
 refine q_then ?_
 refine c_seq ?_
 refine c_seq ?_
 refine rg ?_
 refine st (v := (I r3)) (rv_move rfl) ?_
 refine st (v := (B (decide (r3 < 0)))) (rv_lss (a := r3) (b := 0) rfl rfl) ?_
 refine w_end ?_
 refine q_then ?_
 refine cd_cond (decide (r3 < 0)) rfl (fun hb7 => ?_) (fun hb7 => ?_)
 ·replace h := bif_t hb7 h
  refine c_seq ?_
  refine rg ?_
  refine st (v := (B true)) (rv_assign rfl) ?_
  refine w_end ?_
  refine q_then ?_
  refine c_ret ?_
  refine q_then_r ?_
  obtain rfl := Option.some.inj h
  exact fin_ret (v := (B true)) (results_ok Try.results8 (res_tmp (v := (B true)) rfl res_nil) rfl) ⟨rfl, rfl⟩ (H.sel' [] rfl rfl)
 ·replace h := bif_f hb7 h
  refine c_skip ?_
  refine q_then ?_
  refine c_seq ?_
  refine rg ?_
  have hc8 := H.cells 0 rfl
  refine st (v := (.agg #[(I aX_1.1), (Sl aaX_1_1 aX_1.2.1 caX_1_1), (I aX_1.2.2)])) (rv_load (cs := [(I aX_1.1), (Sl aaX_1_1 aX_1.2.1 caX_1_1), (I aX_1.2.2)]) Try.underlying47 rfl ti47 rfl rfl hc8) ?_
  refine st (v := (I r3)) (rv_move rfl) ?_
  obtain ⟨r9, hx10, h'⟩ := bind_some h
  clear h
  have h := h'; clear h'
  have hc11 := c_laws_szItem (aa_0_1 := aaX_1_1) (ca_0_1 := caX_1_1) hx10
  refine st_call (cx_call hc11 (ent_f hc11.fn rfl) hn0 (show Hp S0 σ0 _ ([Ch.ro 0 (Sl aaX_1_1 aX_1.2.1 caX_1_1) aX_1.2.1] ++ [Ch.bx n0 b1 0 [(I aX_1.1), (Sl aaX_1_1 aX_1.2.1 caX_1_1), (I aX_1.2.2)] [] [], Ch.ro 0 (Sl aaList_0 aList_0 caList_0) aList_0, Ch.ro 0 (Sl aaX_1_1 aX_1.2.1 caX_1_1) aX_1.2.1]) from (H.sel' [2, 0, 1, 2] rfl rfl))) wn ?_
  rintro _ σ12 ⟨_, ⟨rfl, rfl⟩, H, -⟩
  replace H : Hp S0 σ0 σ12 [Ch.bx n0 b1 0 [(I aX_1.1), (Sl aaX_1_1 aX_1.2.1 caX_1_1), (I aX_1.2.2)] [] [], Ch.ro 0 (Sl aaList_0 aList_0 caList_0) aList_0, Ch.ro 0 (Sl aaX_1_1 aX_1.2.1 caX_1_1) aX_1.2.1] := H
  refine st (v := (I r9)) (rv_assign rfl) ?_
  refine w_end ?_
  refine q_then ?_
  refine c_seq ?_
  refine c_seq ?_
  refine rg ?_
  refine st (v := (I r9)) (rv_move rfl) ?_
  refine st (v := (B (decide (r9 < 0)))) (rv_lss (a := r9) (b := 0) rfl rfl) ?_
  refine w_end ?_
  refine q_then ?_
  refine cd_cond (decide (r9 < 0)) rfl (fun hb13 => ?_) (fun hb13 => ?_)
  ·replace h := bif_t hb13 h
   refine c_seq ?_
   refine rg ?_
   refine st (v := (B true)) (rv_assign rfl) ?_
   refine w_end ?_
   refine q_then ?_
   refine c_ret ?_
   refine q_then_r ?_
   obtain rfl := Option.some.inj h
   exact fin_ret (v := (B true)) (results_ok Try.results8 (res_tmp (v := (B true)) rfl res_nil) rfl) ⟨rfl, rfl⟩ (H.sel' [] rfl rfl)
  ·replace h := bif_f hb13 h
   refine c_skip ?_
   refine q_then ?_
   refine c_seq ?_
   obtain ⟨r14, hx15, h'⟩ := bind_some h
   clear h
   have h := h'; clear h'
   have hc16 := c_laws_toItemS (aa_0 := aaList_0) (ca_0 := caList_0) hx15
   have hc21 := H.cells 0 rfl
   obtain ⟨r22, hx23, h'⟩ := bind_some h
   clear h
   have h := h'; clear h'
   have hc24 := c_laws_toItem (aa_0_1 := aaX_1_1) (ca_0_1 := caX_1_1) hx23
   obtain ⟨r28, hx29, h'⟩ := bind_some h
   clear h
   have h := h'; clear h'
   have hc30 := fun (a17 : Option Addr) (c18 : Nat) (a25 : Option Addr) (c26 : Nat) => c_spec_PutItem (alist_0 := a17) (clist_0 := c18) (ax_1_1 := a25) (cx_1_1 := c26) hx29
   have Hs := H
   refine rg2 (σ := σ12) (Nm := (Option Addr) × (Nat) × (List Ch) × (Option Addr) × (Nat) × (Option Addr) × (Nat)) 9 [1, 3, 4] [[false, false, false], [true, false, false], [true, true, false], [true, true, true]] [[(0, 0)], [(0, 1)], [(0, 0), (1, 1)], [(1, 2)], [(2, 3)], [(3, 3)], [(3, 3)], [(3, 3)], [(3, 3)]] 3 [fun ((a17, c18, K19, a25, c26, a31, c32) : (Option Addr) × (Nat) × (List Ch) × (Option Addr) × (Nat) × (Option Addr) × (Nat)) => fun σm => Hp S0 σ0 σm [Ch.bx n0 b1 0 [(I aX_1.1), (Sl aaX_1_1 aX_1.2.1 caX_1_1), (I aX_1.2.2)] [] [], Ch.ro 0 (Sl aaList_0 aList_0 caList_0) aList_0, Ch.ro 0 (Sl aaX_1_1 aX_1.2.1 caX_1_1) aX_1.2.1] ∧ Md (cov []) σ12 σm, fun ((a17, c18, K19, a25, c26, a31, c32) : (Option Addr) × (Nat) × (List Ch) × (Option Addr) × (Nat) × (Option Addr) × (Nat)) => fun σm => Hp S0 σ0 σm [Ch.ro 0 (Sl a17 r14 c18) r14, Ch.bx n0 b1 0 [(I aX_1.1), (Sl aaX_1_1 aX_1.2.1 caX_1_1), (I aX_1.2.2)] [] [], Ch.ro 0 (Sl aaList_0 aList_0 caList_0) aList_0, Ch.ro 0 (Sl aaX_1_1 aX_1.2.1 caX_1_1) aX_1.2.1] ∧ Md (fun i => (cov []) i ∨ (fun i => (cov [Ch.ro 0 (Sl aaList_0 aList_0 caList_0) aList_0]) i ∨ (cov K19) i) i) σ12 σm, fun ((a17, c18, K19, a25, c26, a31, c32) : (Option Addr) × (Nat) × (List Ch) × (Option Addr) × (Nat) × (Option Addr) × (Nat)) => fun σm => Hp S0 σ0 σm [Ch.ro 0 (Sl a25 r22.2.1 c26) r22.2.1, Ch.ro 0 (Sl a17 r14 c18) r14, Ch.bx n0 b1 0 [(I aX_1.1), (Sl aaX_1_1 aX_1.2.1 caX_1_1), (I aX_1.2.2)] [] [], Ch.ro 0 (Sl aaList_0 aList_0 caList_0) aList_0, Ch.ro 0 (Sl aaX_1_1 aX_1.2.1 caX_1_1) aX_1.2.1] ∧ Md (fun i => (fun i => (cov []) i ∨ (fun i => (cov [Ch.ro 0 (Sl aaList_0 aList_0 caList_0) aList_0]) i ∨ (cov K19) i) i) i ∨ (fun i => (cov [Ch.ro 0 (Sl aaX_1_1 aX_1.2.1 caX_1_1) aX_1.2.1]) i ∨ (fun b => blk (Sl a25 r22.2.1 c26) = some b) i) i) σ12 σm ∧ c26 = r22.2.1.length, fun ((a17, c18, K19, a25, c26, a31, c32) : (Option Addr) × (Nat) × (List Ch) × (Option Addr) × (Nat) × (Option Addr) × (Nat)) => fun σm => Hp S0 σ0 σm [Ch.own n0 n0 (Sl a31 r28.1 c32) r28.1, Ch.ro 0 (Sl a25 r22.2.1 c26) r22.2.1, Ch.ro 0 (Sl a17 r14 c18) r14, Ch.bx n0 b1 0 [(I aX_1.1), (Sl aaX_1_1 aX_1.2.1 caX_1_1), (I aX_1.2.2)] [] [], Ch.ro 0 (Sl aaList_0 aList_0 caList_0) aList_0, Ch.ro 0 (Sl aaX_1_1 aX_1.2.1 caX_1_1) aX_1.2.1] ∧ Md (fun i => (fun i => (cov []) i ∨ (fun i => (cov [Ch.ro 0 (Sl aaList_0 aList_0 caList_0) aList_0]) i ∨ (cov K19) i) i) i ∨ (fun i => (cov [Ch.ro 0 (Sl aaX_1_1 aX_1.2.1 caX_1_1) aX_1.2.1]) i ∨ (fun b => blk (Sl a25 r22.2.1 c26) = some b) i) i) σ12 σm ∧ c26 = r22.2.1.length] [fun ((a17, c18, K19, a25, c26, a31, c32) : (Option Addr) × (Nat) × (List Ch) × (Option Addr) × (Nat) × (Option Addr) × (Nat)) => (Sl aaList_0 aList_0 caList_0), fun ((a17, c18, K19, a25, c26, a31, c32) : (Option Addr) × (Nat) × (List Ch) × (Option Addr) × (Nat) × (Option Addr) × (Nat)) => (Sl a17 r14 c18), fun ((a17, c18, K19, a25, c26, a31, c32) : (Option Addr) × (Nat) × (List Ch) × (Option Addr) × (Nat) × (Option Addr) × (Nat)) => (.agg #[(I aX_1.1), (Sl aaX_1_1 aX_1.2.1 caX_1_1), (I aX_1.2.2)]), fun ((a17, c18, K19, a25, c26, a31, c32) : (Option Addr) × (Nat) × (List Ch) × (Option Addr) × (Nat) × (Option Addr) × (Nat)) => (.agg #[(I r22.1), (Sl a25 r22.2.1 c26), (I r22.2.2)]), fun ((a17, c18, K19, a25, c26, a31, c32) : (Option Addr) × (Nat) × (List Ch) × (Option Addr) × (Nat) × (Option Addr) × (Nat)) => (.tuple #[(Sl a31 r28.1 c32), (B r28.2)]), fun ((a17, c18, K19, a25, c26, a31, c32) : (Option Addr) × (Nat) × (List Ch) × (Option Addr) × (Nat) × (Option Addr) × (Nat)) => (.tuple #[(Sl a31 r28.1 c32), (B r28.2)]), fun ((a17, c18, K19, a25, c26, a31, c32) : (Option Addr) × (Nat) × (List Ch) × (Option Addr) × (Nat) × (Option Addr) × (Nat)) => (Sl a31 r28.1 c32), fun ((a17, c18, K19, a25, c26, a31, c32) : (Option Addr) × (Nat) × (List Ch) × (Option Addr) × (Nat) × (Option Addr) × (Nat)) => (B r28.2), fun ((a17, c18, K19, a25, c26, a31, c32) : (Option Addr) × (Nat) × (List Ch) × (Option Addr) × (Nat) × (Option Addr) × (Nat)) => (Sl a31 r28.1 c32)] (none, 0, [], none, 0, none, 0) (by kernel_rfl) (by kernel_rfl) ?_ ?_ ?_
   ·intro σm m0
    exact ⟨H.grow (m0.mono fun _ h => h.elim), m0⟩
   ·refine ac rfl (by
      intro k; rintro ⟨a17, c18, K19, a25, c26, a31, c32⟩ ρ σm hJ hoff hdep
      have e0 := look_off (N := 119) (hoff 0 rfl) rfl
      exact dp_v (v := (Sl aaList_0 aList_0 caList_0)) wn (rv_move e0) rfl hJ) ?_
    refine all_cons (by
      refine ⟨?_, ?_⟩
      ·rintro ⟨a17, c18, K19, a25, c26, a31, c32⟩ ρ σm hJ hoff hdep
       have e28 : look 119 ρ 28 = (Sl aaList_0 aList_0 caList_0) := hdep 0 rfl rfl 28 rfl
       obtain ⟨H, m⟩ := id hJ
       refine dp_cx wn (cx_call hc16 (ent_f hc16.fn (by show [look 119 ρ 28] = _; rw [e28])) hn0 (show Hp S0 σ0 _ ([Ch.ro 0 (Sl aaList_0 aList_0 caList_0) aList_0] ++ [Ch.bx n0 b1 0 [(I aX_1.1), (Sl aaX_1_1 aX_1.2.1 caX_1_1), (I aX_1.2.2)] [] [], Ch.ro 0 (Sl aaList_0 aList_0 caList_0) aList_0, Ch.ro 0 (Sl aaX_1_1 aX_1.2.1 caX_1_1) aX_1.2.1]) from (H.sel' [1, 0, 1, 2] rfl rfl))) ?_
       rintro _ σq ⟨_, ⟨a17x, c18x, K19x, rfl, rfl, hK20⟩, H2, m2⟩
       obtain ⟨σr0, hwr0, H2, mr0⟩ := H2.dpPub 0 rfl hK20
       exact ⟨_, (a17x, c18x, K19x, a25, c26, a31, c32), hwr0, rfl, ⟨H2.sel' [0, 1, 2, 3] rfl rfl, m.comp (m2.comp mr0)⟩, stab [0, 2] (by kernel_rfl) ⟨rfl, rfl, trivial⟩⟩
      trivial) ?_
    refine all_cons (by
      refine ⟨?_, ?_⟩
      ·rintro ⟨a17, c18, K19, a25, c26, a31, c32⟩ ρ σm hJ hoff hdep
       have e3 := look_off (N := 119) (hoff 3 rfl) rfl
       obtain ⟨H, m⟩ := id hJ
       have hc21 := H.cells 0 rfl
       exact dp_v (v := (.agg #[(I aX_1.1), (Sl aaX_1_1 aX_1.2.1 caX_1_1), (I aX_1.2.2)])) wn (rv_load (cs := [(I aX_1.1), (Sl aaX_1_1 aX_1.2.1 caX_1_1), (I aX_1.2.2)]) Try.underlying47 rfl ti47 e3 rfl hc21) rfl hJ
      refine ⟨?_, ?_⟩
      ·rintro ⟨a17, c18, K19, a25, c26, a31, c32⟩ ρ σm hJ hoff hdep
       have e3 := look_off (N := 119) (hoff 3 rfl) rfl
       obtain ⟨H, m⟩ := id hJ
       have hc21 := H.cells 1 rfl
       exact dp_v (v := (.agg #[(I aX_1.1), (Sl aaX_1_1 aX_1.2.1 caX_1_1), (I aX_1.2.2)])) wn (rv_load (cs := [(I aX_1.1), (Sl aaX_1_1 aX_1.2.1 caX_1_1), (I aX_1.2.2)]) Try.underlying47 rfl ti47 e3 rfl hc21) rfl hJ
      trivial) ?_
    refine all_cons (by
      refine ⟨?_, ?_⟩
      ·rintro ⟨a17, c18, K19, a25, c26, a31, c32⟩ ρ σm hJ hoff hdep
       have e30 : look 119 ρ 30 = (.agg #[(I aX_1.1), (Sl aaX_1_1 aX_1.2.1 caX_1_1), (I aX_1.2.2)]) := hdep 2 rfl rfl 30 rfl
       obtain ⟨H, m⟩ := id hJ
       refine dp_cx wn (cx_call hc24 (ent_f hc24.fn (by show [look 119 ρ 30] = _; rw [e30])) hn0 (show Hp S0 σ0 _ ([Ch.ro 0 (Sl aaX_1_1 aX_1.2.1 caX_1_1) aX_1.2.1] ++ [Ch.ro 0 (Sl a17 r14 c18) r14, Ch.bx n0 b1 0 [(I aX_1.1), (Sl aaX_1_1 aX_1.2.1 caX_1_1), (I aX_1.2.2)] [] [], Ch.ro 0 (Sl aaList_0 aList_0 caList_0) aList_0, Ch.ro 0 (Sl aaX_1_1 aX_1.2.1 caX_1_1) aX_1.2.1]) from (H.sel' [3, 0, 1, 2, 3] rfl rfl))) ?_
       rintro _ σq ⟨_, ⟨a25x, c26x, rfl, rfl, ht27⟩, H2, m2⟩
       obtain ⟨σr0, hwr0, H2, mr0⟩ := H2.pubSc 0 rfl
       exact ⟨_, (a17, c18, K19, a25x, c26x, a31, c32), hwr0, rfl, ⟨H2.sel' [0, 1, 2, 3, 4] rfl rfl, m.comp (m2.comp mr0), ht27⟩, stab [0, 1, 2] (by kernel_rfl) ⟨rfl, rfl, rfl, trivial⟩⟩
      trivial) ?_
    refine all_cons (by
      refine ⟨?_, ?_⟩
      ·rintro ⟨a17, c18, K19, a25, c26, a31, c32⟩ ρ σm hJ hoff hdep
       have e29 : look 119 ρ 29 = (Sl a17 r14 c18) := hdep 1 rfl rfl 29 rfl
       have e31 : look 119 ρ 31 = (.agg #[(I r22.1), (Sl a25 r22.2.1 c26), (I r22.2.2)]) := hdep 3 rfl rfl 31 rfl
       obtain ⟨H, m, ht27⟩ := id hJ
       refine dp_cx wn (cx_call (hc30 a17 c18 a25 c26) (ent_f (hc30 a17 c18 a25 c26).fn (by show [look 119 ρ 29, look 119 ρ 31] = _; rw [e29, e31])) hn0 (show Hp S0 σ0 _ ([Ch.ro 0 (Sl a17 r14 c18) r14, Ch.ro 0 (Sl a25 r22.2.1 c26) r22.2.1] ++ [Ch.ro 0 (Sl a25 r22.2.1 c26) r22.2.1, Ch.ro 0 (Sl a17 r14 c18) r14, Ch.bx n0 b1 0 [(I aX_1.1), (Sl aaX_1_1 aX_1.2.1 caX_1_1), (I aX_1.2.2)] [] [], Ch.ro 0 (Sl aaList_0 aList_0 caList_0) aList_0, Ch.ro 0 (Sl aaX_1_1 aX_1.2.1 caX_1_1) aX_1.2.1]) from (H.sel' [1, 0, 0, 1, 2, 3, 4] rfl rfl))) ?_
       rintro _ σq ⟨_, ⟨a31x, c32x, rfl, rfl⟩, H2, m2⟩
       exact ⟨_, (a17, c18, K19, a25, c26, a31x, c32x), rfl, rfl, ⟨H2.sel' [0, 1, 2, 3, 4, 5] rfl rfl, m.comp0 (m2.mono (fun i h => by simp [cov, Ch.ro] at h)), ht27⟩, stab [0, 1, 2, 3] (by kernel_rfl) ⟨rfl, rfl, rfl, rfl, trivial⟩⟩
      trivial) ?_
    refine ac rfl (by
      intro k; rintro ⟨a17, c18, K19, a25, c26, a31, c32⟩ ρ σm hJ hoff hdep
      have e32 := hdep 4 rfl rfl 32 rfl
      exact dp_v (v := (.tuple #[(Sl a31 r28.1 c32), (B r28.2)])) wn (rv_move e32) rfl hJ) ?_
    refine ac rfl (by
      intro k; rintro ⟨a17, c18, K19, a25, c26, a31, c32⟩ ρ σm hJ hoff hdep
      have e27 := hdep 5 rfl rfl 27 rfl
      exact dp_v (v := (Sl a31 r28.1 c32)) wn (rv_extract e27 rfl) rfl hJ) ?_
    refine ac rfl (by
      intro k; rintro ⟨a17, c18, K19, a25, c26, a31, c32⟩ ρ σm hJ hoff hdep
      have e27 := hdep 5 rfl rfl 27 rfl
      exact dp_v (v := (B r28.2)) wn (rv_extract e27 rfl) rfl hJ) ?_
    refine ac rfl (by
      intro k; rintro ⟨a17, c18, K19, a25, c26, a31, c32⟩ ρ σm hJ hoff hdep
      have e33 := hdep 6 rfl rfl 33 rfl
      exact dp_v (v := (Sl a31 r28.1 c32)) wn (rv_assign e33) rfl hJ) ?_
    exact all_nil
   ·rintro ⟨a17, c18, K19, a25, c26, a31, c32⟩ ρ σ33 hJ hoff hrel
    have e0 := look_off (N := 119) (hoff 0 rfl) rfl
    have e3 := look_off (N := 119) (hoff 3 rfl) rfl
    have e6 := hrel 8 rfl 6 rfl
    have e34 := hrel 7 rfl 34 rfl
    obtain ⟨H, -, ht27⟩ := (show Hp S0 σ0 σ33 [Ch.own n0 n0 (Sl a31 r28.1 c32) r28.1, Ch.ro 0 (Sl a25 r22.2.1 c26) r22.2.1, Ch.ro 0 (Sl a17 r14 c18) r14, Ch.bx n0 b1 0 [(I aX_1.1), (Sl aaX_1_1 aX_1.2.1 caX_1_1), (I aX_1.2.2)] [] [], Ch.ro 0 (Sl aaList_0 aList_0 caList_0) aList_0, Ch.ro 0 (Sl aaX_1_1 aX_1.2.1 caX_1_1) aX_1.2.1] ∧ Md (fun i => (fun i => (cov []) i ∨ (fun i => (cov [Ch.ro 0 (Sl aaList_0 aList_0 caList_0) aList_0]) i ∨ (cov K19) i) i) i ∨ (fun i => (cov [Ch.ro 0 (Sl aaX_1_1 aX_1.2.1 caX_1_1) aX_1.2.1]) i ∨ (fun b => blk (Sl a25 r22.2.1 c26) = some b) i) i) σ12 σ33 ∧ c26 = r22.2.1.length from hJ)
    clear hJ Hs
    rw [fr_lookL (L := [(0, (Sl aaList_0 aList_0 caList_0)), (3, (pt b1 0)), (6, (Sl a31 r28.1 c32)), (34, (B r28.2))]) ⟨e0, e3, e6, e34, trivial⟩]
    clear hoff hrel e0 e3 e6 e34
    refine st (v := (B r28.2)) (rv_assign rfl) ?_
    refine w_end ?_
    refine q_then ?_
    refine c_seq ?_
    refine rg ?_
    refine st (v := (Sl aaList_0 aList_0 caList_0)) (rv_move rfl) ?_
    obtain ⟨r34, hx35, h'⟩ := bind_some h
    clear h
    have h := h'; clear h'
    have hc36 := c_laws_toItemS (aa_0 := aaList_0) (ca_0 := caList_0) hx35
    refine st_call (cx_call hc36 (ent_f hc36.fn rfl) hn0 (show Hp S0 σ0 _ ([Ch.ro 0 (Sl aaList_0 aList_0 caList_0) aList_0] ++ [Ch.own n0 n0 (Sl a31 r28.1 c32) r28.1, Ch.ro 0 (Sl a25 r22.2.1 c26) r22.2.1, Ch.ro 0 (Sl a17 r14 c18) r14, Ch.bx n0 b1 0 [(I aX_1.1), (Sl aaX_1_1 aX_1.2.1 caX_1_1), (I aX_1.2.2)] [] [], Ch.ro 0 (Sl aaList_0 aList_0 caList_0) aList_0, Ch.ro 0 (Sl aaX_1_1 aX_1.2.1 caX_1_1) aX_1.2.1]) from (H.sel' [4, 0, 1, 2, 3, 4, 5] rfl rfl))) wn ?_
    rintro _ σ41 ⟨_, ⟨a37, c38, K39, rfl, rfl, hK40⟩, H, -⟩
    replace H : Hp S0 σ0 σ41 [Ch.big K39, Ch.own n0 n0 (Sl a31 r28.1 c32) r28.1, Ch.ro 0 (Sl a25 r22.2.1 c26) r22.2.1, Ch.ro 0 (Sl a17 r14 c18) r14, Ch.bx n0 b1 0 [(I aX_1.1), (Sl aaX_1_1 aX_1.2.1 caX_1_1), (I aX_1.2.2)] [] [], Ch.ro 0 (Sl aaList_0 aList_0 caList_0) aList_0, Ch.ro 0 (Sl aaX_1_1 aX_1.2.1 caX_1_1) aX_1.2.1] := H
    refine st (v := (Sl a37 r34 c38)) (rv_assign rfl) ?_
    refine w_end ?_
    refine q_then ?_
    refine c_seq ?_
    refine rg ?_
    have hc42 := H.cells 4 rfl
    refine st (v := (.agg #[(I aX_1.1), (Sl aaX_1_1 aX_1.2.1 caX_1_1), (I aX_1.2.2)])) (rv_load (cs := [(I aX_1.1), (Sl aaX_1_1 aX_1.2.1 caX_1_1), (I aX_1.2.2)]) Try.underlying47 rfl ti47 rfl rfl hc42) ?_
    obtain ⟨r43, hx44, h'⟩ := bind_some h
    clear h
    have h := h'; clear h'
    have hc45 := c_laws_toItem (aa_0_1 := aaX_1_1) (ca_0_1 := caX_1_1) hx44
    refine st_call (cx_call hc45 (ent_f hc45.fn rfl) hn0 (show Hp S0 σ0 _ ([Ch.ro 0 (Sl aaX_1_1 aX_1.2.1 caX_1_1) aX_1.2.1] ++ [Ch.big K39, Ch.own n0 n0 (Sl a31 r28.1 c32) r28.1, Ch.ro 0 (Sl a25 r22.2.1 c26) r22.2.1, Ch.ro 0 (Sl a17 r14 c18) r14, Ch.bx n0 b1 0 [(I aX_1.1), (Sl aaX_1_1 aX_1.2.1 caX_1_1), (I aX_1.2.2)] [] [], Ch.ro 0 (Sl aaList_0 aList_0 caList_0) aList_0, Ch.ro 0 (Sl aaX_1_1 aX_1.2.1 caX_1_1) aX_1.2.1]) from (H.sel' [6, 0, 1, 2, 3, 4, 5, 6] rfl rfl))) wn ?_
    rintro _ σ49 ⟨_, ⟨a46, c47, rfl, rfl, ht48⟩, H, -⟩
    replace H : Hp S0 σ0 σ49 [Ch.own n0 n0 (Sl a46 r43.2.1 c47) r43.2.1, Ch.big K39, Ch.own n0 n0 (Sl a31 r28.1 c32) r28.1, Ch.ro 0 (Sl a25 r22.2.1 c26) r22.2.1, Ch.ro 0 (Sl a17 r14 c18) r14, Ch.bx n0 b1 0 [(I aX_1.1), (Sl aaX_1_1 aX_1.2.1 caX_1_1), (I aX_1.2.2)] [] [], Ch.ro 0 (Sl aaList_0 aList_0 caList_0) aList_0, Ch.ro 0 (Sl aaX_1_1 aX_1.2.1 caX_1_1) aX_1.2.1] := H
    replace H : Hp S0 σ0 σ49 [Ch.own n0 n0 (Sl a46 r43.2.1 c47) r43.2.1, Ch.big K39, Ch.own n0 n0 (Sl a31 r28.1 c32) r28.1, Ch.bx n0 b1 0 [(I aX_1.1), (Sl aaX_1_1 aX_1.2.1 caX_1_1), (I aX_1.2.2)] [] [], Ch.ro 0 (Sl aaList_0 aList_0 caList_0) aList_0, Ch.ro 0 (Sl aaX_1_1 aX_1.2.1 caX_1_1) aX_1.2.1] := H.sel' [0, 1, 2, 5, 6, 7] rfl rfl
    refine st_ex (ex_alloc (cs := [(I 0), (.slice none 0 0), (I 0)]) H hn0 ti26 rfl) wn ?_
    rintro _ σ51 ⟨b50, rfl, H, -⟩
    refine st_exS (ex_store_box (k := 0) (cs := [(I 0), (.slice none 0 0), (I 0)]) (vs := [(I r43.1), (Sl a46 r43.2.1 c47), (I r43.2.2)]) (cs' := [(I r43.1), (Sl a46 r43.2.1 c47), (I r43.2.2)]) H (i := 0) rfl ti26 rfl rfl rfl rfl rfl (Nat.le_of_ble_eq_true rfl) (by simp [plain]) rfl) wn ?_
    rintro σ52 ⟨H, -⟩
    refine w_end ?_
    refine q_then ?_
    refine c_seq ?_
    refine rg ?_
    refine st (v := (Sl a37 r34 c38)) (rv_move rfl) ?_
    have hc53 := H.cells 0 rfl
    refine st (v := (.agg #[(I r43.1), (Sl a46 r43.2.1 c47), (I r43.2.2)])) (rv_load (cs := [(I r43.1), (Sl a46 r43.2.1 c47), (I r43.2.2)]) Try.underlying26 rfl ti26 rfl rfl hc53) ?_
    obtain ⟨r54, hx55, h'⟩ := bind_some h
    clear h
    have h := h'; clear h'
    have hc56 := c_impl_PutItemD (alist_0 := a37) (clist_0 := c38) (ax_1_1 := a46) (cx_1_1 := c47) hx55
    have hle := Nat.le_trans hn0 H.size
    refine st_call (cx_lend (Loan.lendB hK40.lends (Loan.lend Loan.nil)) hc56 (ent_f hc56.fn rfl) (show Hp S0 σ0 _ ([Ch.big K39, Ch.own n0 n0 (Sl a46 r43.2.1 c47) r43.2.1] ++ ([] ++ [Ch.bx n0 b50 0 [(I r43.1), (Sl a46 r43.2.1 c47), (I r43.2.2)] [] [], Ch.own n0 n0 (Sl a31 r28.1 c32) r28.1, Ch.bx n0 b1 0 [(I aX_1.1), (Sl aaX_1_1 aX_1.2.1 caX_1_1), (I aX_1.2.2)] [] [], Ch.ro 0 (Sl aaList_0 aList_0 caList_0) aList_0, Ch.ro 0 (Sl aaX_1_1 aX_1.2.1 caX_1_1) aX_1.2.1])) from (H.sel' [2, 1, 0, 3, 4, 5, 6] rfl rfl)) (by rintro _ _ _ ⟨_, _, _, rfl, rfl, hK60⟩; exact ⟨Dp.abSc hK60, trivial⟩)) wn ?_
    rintro _ σ61 ⟨_, ⟨a57, c58, K59, rfl, rfl, hK60⟩, H, -, -⟩
    replace H : Hp S0 σ0 σ61 [Ch.big K59, Ch.big K39, Ch.own n0 n0 (Sl a46 r43.2.1 c47) r43.2.1, Ch.bx n0 b50 0 [(I r43.1), (Sl a46 r43.2.1 c47), (I r43.2.2)] [] [], Ch.own n0 n0 (Sl a31 r28.1 c32) r28.1, Ch.bx n0 b1 0 [(I aX_1.1), (Sl aaX_1_1 aX_1.2.1 caX_1_1), (I aX_1.2.2)] [] [], Ch.ro 0 (Sl aaList_0 aList_0 caList_0) aList_0, Ch.ro 0 (Sl aaX_1_1 aX_1.2.1 caX_1_1) aX_1.2.1] := H
    clear hle
    replace H : Hp S0 σ0 σ61 [Ch.big K59, Ch.big K39, Ch.own n0 n0 (Sl a46 r43.2.1 c47) r43.2.1, Ch.bx n0 b50 0 [(I r43.1), (Sl a46 r43.2.1 c47), (I r43.2.2)] [] [], Ch.own n0 n0 (Sl a31 r28.1 c32) r28.1, Ch.bx n0 b1 0 [(I aX_1.1), (Sl aaX_1_1 aX_1.2.1 caX_1_1), (I aX_1.2.2)] [] [], Ch.ro 0 (Sl aaList_0 aList_0 caList_0) aList_0, Ch.ro 0 (Sl aaX_1_1 aX_1.2.1 caX_1_1) aX_1.2.1] := H
    refine st (v := (.tuple #[(Sl a57 r54.1 c58), (B r54.2)])) (rv_move rfl) ?_
    refine st (v := (Sl a57 r54.1 c58)) (rv_extract rfl rfl) ?_
    refine st (v := (B r54.2)) (rv_extract rfl rfl) ?_
    refine st (v := (Sl a57 r54.1 c58)) (rv_assign rfl) ?_
    refine st (v := (B r54.2)) (rv_assign rfl) ?_
    refine w_end ?_
    refine q_then ?_
    refine c_seq ?_
    refine c_seq ?_
    obtain ⟨o62, hj, h'⟩ := bind_some h
    clear h
    refine c_cut (fun e a w => e = .normal ∧ ∃ (ρ : Nat → Value) (σ : St), a = fr 119 (updL ρ [(0, (Sl aaList_0 aList_0 caList_0)), (3, (pt b1 0)), (6, (Sl a31 r28.1 c32)), (7, (B r28.2)), (8, (Sl a37 r34 c38)), (9, (pt b50 0)), (10, (Sl a57 r54.1 c58)), (11, (B r54.2)), (53, (B o62))]) ∧ w = σ.w ∧ Hp S0 σ0 σ [Ch.ro 0 (Sl aaList_0 aList_0 caList_0) aList_0, Ch.ro 0 (Sl aaX_1_1 aX_1.2.1 caX_1_1) aX_1.2.1, Ch.bx n0 b1 0 [(I aX_1.1), (Sl aaX_1_1 aX_1.2.1 caX_1_1), (I aX_1.2.2)] [] [], Ch.own n0 n0 (Sl a31 r28.1 c32) r28.1, Ch.big K39, Ch.own n0 n0 (Sl a46 r43.2.1 c47) r43.2.1, Ch.bx n0 b50 0 [(I r43.1), (Sl a46 r43.2.1 c47), (I r43.2.2)] [] [], Ch.big K59]) ?_ ?_
    ·clear h'
     rename _ = some o62 => h
     refine rg ?_
     refine st (v := (Sl a57 r54.1 c58)) (rv_move rfl) ?_
     refine st (v := (Sl a31 r28.1 c32)) (rv_move rfl) ?_
     obtain ⟨r63, hx64, h'⟩ := bind_some h
     clear h
     have h := h'; clear h'
     have hc65 := c_laws_eqItemS (aa_0 := a57) (ca_0 := c58) (ab_1 := a31) (cb_1 := c32) hx64
     have hle := Nat.le_trans hn0 H.size
     refine st_call (cx_lend (Loan.lendB hK60.lends (Loan.lend Loan.nil)) hc65 (ent_f hc65.fn rfl) (show Hp S0 σ0 _ ([Ch.big K59, Ch.own n0 n0 (Sl a31 r28.1 c32) r28.1] ++ ([] ++ [Ch.big K39, Ch.own n0 n0 (Sl a46 r43.2.1 c47) r43.2.1, Ch.bx n0 b50 0 [(I r43.1), (Sl a46 r43.2.1 c47), (I r43.2.2)] [] [], Ch.bx n0 b1 0 [(I aX_1.1), (Sl aaX_1_1 aX_1.2.1 caX_1_1), (I aX_1.2.2)] [] [], Ch.ro 0 (Sl aaList_0 aList_0 caList_0) aList_0, Ch.ro 0 (Sl aaX_1_1 aX_1.2.1 caX_1_1) aX_1.2.1])) from (H.sel' [0, 4, 1, 2, 3, 5, 6, 7] rfl rfl)) (by rintro _ _ _ ⟨rfl, rfl⟩; exact trivial)) wn ?_
     rintro _ σ66 ⟨_, ⟨rfl, rfl⟩, H, -, -⟩
     replace H : Hp S0 σ0 σ66 [Ch.big K59, Ch.own n0 n0 (Sl a31 r28.1 c32) r28.1, Ch.big K39, Ch.own n0 n0 (Sl a46 r43.2.1 c47) r43.2.1, Ch.bx n0 b50 0 [(I r43.1), (Sl a46 r43.2.1 c47), (I r43.2.2)] [] [], Ch.bx n0 b1 0 [(I aX_1.1), (Sl aaX_1_1 aX_1.2.1 caX_1_1), (I aX_1.2.2)] [] [], Ch.ro 0 (Sl aaList_0 aList_0 caList_0) aList_0, Ch.ro 0 (Sl aaX_1_1 aX_1.2.1 caX_1_1) aX_1.2.1] := H
     clear hle
     replace H : Hp S0 σ0 σ66 [Ch.big K59, Ch.own n0 n0 (Sl a31 r28.1 c32) r28.1, Ch.big K39, Ch.own n0 n0 (Sl a46 r43.2.1 c47) r43.2.1, Ch.bx n0 b50 0 [(I r43.1), (Sl a46 r43.2.1 c47), (I r43.2.2)] [] [], Ch.bx n0 b1 0 [(I aX_1.1), (Sl aaX_1_1 aX_1.2.1 caX_1_1), (I aX_1.2.2)] [] [], Ch.ro 0 (Sl aaList_0 aList_0 caList_0) aList_0, Ch.ro 0 (Sl aaX_1_1 aX_1.2.1 caX_1_1) aX_1.2.1] := H
     refine st (v := (B (!r63))) (rv_not rfl) ?_
     refine st (v := (B (!r63))) (rv_move rfl) ?_
     rcases Bool.eq_false_or_eq_true (!r63) with hb67 | hb67
     ·replace h := bif_t hb67 h
      refine st_skip (congrArg some hb67) ?_
      refine st_skip (congrArg some hb67) ?_
      refine st_skip (congrArg some hb67) ?_
      refine st (v := (B true)) (rv_pick_t (congrArg B hb67) rfl) ?_
      refine w_end ?_
      obtain rfl := Option.some.inj h
      exact ⟨rfl, _, σ66, fr_join ⟨rfl, rfl, rfl, rfl, rfl, rfl, rfl, rfl, rfl, trivial⟩, rfl, H.sel' [6, 7, 5, 1, 2, 3, 4, 0] rfl rfl⟩
     ·replace h := bif_f hb67 h
      refine st_g (v := (B r54.2)) (congrArg some hb67) (rv_move rfl) ?_
      refine st_g (v := (B r28.2)) (congrArg some hb67) (rv_move rfl) ?_
      refine st_g (v := (B (r54.2 != r28.2))) (congrArg some hb67) (rv_bneq Try.underlying4 rfl rfl) ?_
      refine st (v := (B (r54.2 != r28.2))) (rv_pick_f (congrArg B hb67) rfl) ?_
      refine w_end ?_
      obtain rfl := Option.some.inj h
      exact ⟨rfl, _, σ66, fr_join ⟨rfl, rfl, rfl, rfl, rfl, rfl, rfl, rfl, rfl, trivial⟩, rfl, H.sel' [6, 7, 5, 1, 2, 3, 4, 0] rfl rfl⟩
    ·clear hj
     have h := h'
     clear h' H
     rintro e a w ⟨rfl, ρ, σ68, rfl, rfl, H⟩
     refine q_then ?_
     refine cd_cond o62 rfl (fun hb69 => ?_) (fun hb69 => ?_)
     ·replace h := bif_t hb69 h
      refine c_seq ?_
      refine rg ?_
      refine st (v := (B false)) (rv_assign rfl) ?_
      refine w_end ?_
      refine q_then ?_
      refine c_ret ?_
      refine q_then_r ?_
      obtain rfl := Option.some.inj h
      exact fin_ret (v := (B false)) (results_ok Try.results8 (res_tmp (v := (B false)) rfl res_nil) rfl) ⟨rfl, rfl⟩ (H.sel' [] rfl rfl)
     ·replace h := bif_f hb69 h
      refine c_skip ?_
      refine q_then ?_
      refine c_seq ?_
      refine c_seq ?_
      refine rg ?_
      refine st (v := (Sl a37 r34 c38)) (rv_move rfl) ?_
      refine st (v := (Sl aaList_0 aList_0 caList_0)) (rv_move rfl) ?_
      obtain ⟨r70, hx71, h'⟩ := bind_some h
      clear h
      have h := h'; clear h'
      have hc72 := c_laws_toItemS (aa_0 := aaList_0) (ca_0 := caList_0) hx71
      refine st_call (cx_call hc72 (ent_f hc72.fn rfl) hn0 (show Hp S0 σ0 _ ([Ch.ro 0 (Sl aaList_0 aList_0 caList_0) aList_0] ++ [Ch.ro 0 (Sl aaList_0 aList_0 caList_0) aList_0, Ch.ro 0 (Sl aaX_1_1 aX_1.2.1 caX_1_1) aX_1.2.1, Ch.bx n0 b1 0 [(I aX_1.1), (Sl aaX_1_1 aX_1.2.1 caX_1_1), (I aX_1.2.2)] [] [], Ch.own n0 n0 (Sl a31 r28.1 c32) r28.1, Ch.big K39, Ch.own n0 n0 (Sl a46 r43.2.1 c47) r43.2.1, Ch.bx n0 b50 0 [(I r43.1), (Sl a46 r43.2.1 c47), (I r43.2.2)] [] [], Ch.big K59]) from (H.sel' [0, 0, 1, 2, 3, 4, 5, 6, 7] rfl rfl))) wn ?_
      rintro _ σ77 ⟨_, ⟨a73, c74, K75, rfl, rfl, hK76⟩, H, -⟩
      replace H : Hp S0 σ0 σ77 [Ch.big K75, Ch.ro 0 (Sl aaList_0 aList_0 caList_0) aList_0, Ch.ro 0 (Sl aaX_1_1 aX_1.2.1 caX_1_1) aX_1.2.1, Ch.bx n0 b1 0 [(I aX_1.1), (Sl aaX_1_1 aX_1.2.1 caX_1_1), (I aX_1.2.2)] [] [], Ch.own n0 n0 (Sl a31 r28.1 c32) r28.1, Ch.big K39, Ch.own n0 n0 (Sl a46 r43.2.1 c47) r43.2.1, Ch.bx n0 b50 0 [(I r43.1), (Sl a46 r43.2.1 c47), (I r43.2.2)] [] [], Ch.big K59] := H
      obtain ⟨r78, hx79, h'⟩ := bind_some h
      clear h
      have h := h'; clear h'
      have hc80 := c_laws_eqItemS (aa_0 := a37) (ca_0 := c38) (ab_1 := a73) (cb_1 := c74) hx79
      have hle := Nat.le_trans hn0 H.size
      refine st_call (cx_lend (Loan.lendB hK40.lends (Loan.lendB hK76.lends Loan.nil)) hc80 (ent_f hc80.fn rfl) (show Hp S0 σ0 _ ([Ch.big K39, Ch.big K75] ++ ([] ++ [Ch.ro 0 (Sl aaList_0 aList_0 caList_0) aList_0, Ch.ro 0 (Sl aaX_1_1 aX_1.2.1 caX_1_1) aX_1.2.1, Ch.bx n0 b1 0 [(I aX_1.1), (Sl aaX_1_1 aX_1.2.1 caX_1_1), (I aX_1.2.2)] [] [], Ch.own n0 n0 (Sl a31 r28.1 c32) r28.1, Ch.own n0 n0 (Sl a46 r43.2.1 c47) r43.2.1, Ch.bx n0 b50 0 [(I r43.1), (Sl a46 r43.2.1 c47), (I r43.2.2)] [] [], Ch.big K59])) from (H.sel' [5, 0, 1, 2, 3, 4, 6, 7, 8] rfl rfl)) (by rintro _ _ _ ⟨rfl, rfl⟩; exact trivial)) wn ?_
      rintro _ σ81 ⟨_, ⟨rfl, rfl⟩, H, -, -⟩
      replace H : Hp S0 σ0 σ81 [Ch.big K39, Ch.big K75, Ch.ro 0 (Sl aaList_0 aList_0 caList_0) aList_0, Ch.ro 0 (Sl aaX_1_1 aX_1.2.1 caX_1_1) aX_1.2.1, Ch.bx n0 b1 0 [(I aX_1.1), (Sl aaX_1_1 aX_1.2.1 caX_1_1), (I aX_1.2.2)] [] [], Ch.own n0 n0 (Sl a31 r28.1 c32) r28.1, Ch.own n0 n0 (Sl a46 r43.2.1 c47) r43.2.1, Ch.bx n0 b50 0 [(I r43.1), (Sl a46 r43.2.1 c47), (I r43.2.2)] [] [], Ch.big K59] := H
      clear hle
      replace H : Hp S0 σ0 σ81 [Ch.big K39, Ch.big K75, Ch.ro 0 (Sl aaList_0 aList_0 caList_0) aList_0, Ch.ro 0 (Sl aaX_1_1 aX_1.2.1 caX_1_1) aX_1.2.1, Ch.bx n0 b1 0 [(I aX_1.1), (Sl aaX_1_1 aX_1.2.1 caX_1_1), (I aX_1.2.2)] [] [], Ch.own n0 n0 (Sl a31 r28.1 c32) r28.1, Ch.own n0 n0 (Sl a46 r43.2.1 c47) r43.2.1, Ch.bx n0 b50 0 [(I r43.1), (Sl a46 r43.2.1 c47), (I r43.2.2)] [] [], Ch.big K59] := H
      replace H : Hp S0 σ0 σ81 [Ch.big K39, Ch.ro 0 (Sl aaList_0 aList_0 caList_0) aList_0, Ch.ro 0 (Sl aaX_1_1 aX_1.2.1 caX_1_1) aX_1.2.1, Ch.bx n0 b1 0 [(I aX_1.1), (Sl aaX_1_1 aX_1.2.1 caX_1_1), (I aX_1.2.2)] [] [], Ch.own n0 n0 (Sl a31 r28.1 c32) r28.1, Ch.own n0 n0 (Sl a46 r43.2.1 c47) r43.2.1, Ch.bx n0 b50 0 [(I r43.1), (Sl a46 r43.2.1 c47), (I r43.2.2)] [] [], Ch.big K59] := H.sel' [0, 2, 3, 4, 5, 6, 7, 8] rfl rfl
      refine st (v := (B (!r78))) (rv_not rfl) ?_
      refine w_end ?_
      refine q_then ?_
      refine cd_cond (!r78) rfl (fun hb82 => ?_) (fun hb82 => ?_)
      ·replace h := bif_t hb82 h
       refine c_seq ?_
       refine rg ?_
       refine st (v := (B false)) (rv_assign rfl) ?_
       refine w_end ?_
       refine q_then ?_
       refine c_ret ?_
       refine q_then_r ?_
       obtain rfl := Option.some.inj h
       exact fin_ret (v := (B false)) (results_ok Try.results8 (res_tmp (v := (B false)) rfl res_nil) rfl) ⟨rfl, rfl⟩ (H.sel' [] rfl rfl)
      ·replace h := bif_f hb82 h
       refine c_skip ?_
       refine q_then ?_
       refine c_seq ?_
       refine c_seq ?_
       have hc83 := H.cells 6 rfl
       have hc84 := H.cells 3 rfl
       obtain ⟨r85, hx86, h'⟩ := bind_some h
       clear h
       have h := h'; clear h'
       have hc87 := c_laws_toItem (aa_0_1 := aaX_1_1) (ca_0_1 := caX_1_1) hx86
       have Hs := H
       refine rg2 (σ := σ81) (Nm := (Option Addr) × (Nat)) 3 [2] [[false], [true]] [[(0, 0), (1, 1)], [(0, 0)], [(0, 1)]] 1 [fun ((a88, c89) : (Option Addr) × (Nat)) => fun σm => Hp S0 σ0 σm [Ch.big K39, Ch.ro 0 (Sl aaList_0 aList_0 caList_0) aList_0, Ch.ro 0 (Sl aaX_1_1 aX_1.2.1 caX_1_1) aX_1.2.1, Ch.bx n0 b1 0 [(I aX_1.1), (Sl aaX_1_1 aX_1.2.1 caX_1_1), (I aX_1.2.2)] [] [], Ch.own n0 n0 (Sl a31 r28.1 c32) r28.1, Ch.own n0 n0 (Sl a46 r43.2.1 c47) r43.2.1, Ch.bx n0 b50 0 [(I r43.1), (Sl a46 r43.2.1 c47), (I r43.2.2)] [] [], Ch.big K59] ∧ Md (cov []) σ81 σm, fun ((a88, c89) : (Option Addr) × (Nat)) => fun σm => Hp S0 σ0 σm [Ch.own n0 n0 (Sl a88 r85.2.1 c89) r85.2.1, Ch.big K39, Ch.ro 0 (Sl aaList_0 aList_0 caList_0) aList_0, Ch.ro 0 (Sl aaX_1_1 aX_1.2.1 caX_1_1) aX_1.2.1, Ch.bx n0 b1 0 [(I aX_1.1), (Sl aaX_1_1 aX_1.2.1 caX_1_1), (I aX_1.2.2)] [] [], Ch.own n0 n0 (Sl a31 r28.1 c32) r28.1, Ch.own n0 n0 (Sl a46 r43.2.1 c47) r43.2.1, Ch.bx n0 b50 0 [(I r43.1), (Sl a46 r43.2.1 c47), (I r43.2.2)] [] [], Ch.big K59] ∧ Md (cov []) σ81 σm ∧ c89 = r85.2.1.length] [fun ((a88, c89) : (Option Addr) × (Nat)) => (.agg #[(I r43.1), (Sl a46 r43.2.1 c47), (I r43.2.2)]), fun ((a88, c89) : (Option Addr) × (Nat)) => (.agg #[(I aX_1.1), (Sl aaX_1_1 aX_1.2.1 caX_1_1), (I aX_1.2.2)]), fun ((a88, c89) : (Option Addr) × (Nat)) => (.agg #[(I r85.1), (Sl a88 r85.2.1 c89), (I r85.2.2)])] (none, 0) (by kernel_rfl) (by kernel_rfl) ?_ ?_ ?_
       ·intro σm m0
        exact ⟨H.grow (m0.mono fun _ h => h.elim), m0⟩
       ·refine all_cons (by
          refine ⟨?_, ?_⟩
          ·rintro ⟨a88, c89⟩ ρ σm hJ hoff hdep
           have e9 := look_off (N := 119) (hoff 9 rfl) rfl
           obtain ⟨H, m⟩ := id hJ
           have hc83 := H.cells 6 rfl
           exact dp_v (v := (.agg #[(I r43.1), (Sl a46 r43.2.1 c47), (I r43.2.2)])) wn (rv_load (cs := [(I r43.1), (Sl a46 r43.2.1 c47), (I r43.2.2)]) Try.underlying26 rfl ti26 e9 rfl hc83) rfl hJ
          refine ⟨?_, ?_⟩
          ·rintro ⟨a88, c89⟩ ρ σm hJ hoff hdep
           have e9 := look_off (N := 119) (hoff 9 rfl) rfl
           obtain ⟨H, m, ht90⟩ := id hJ
           have hc83 := H.cells 7 rfl
           exact dp_v (v := (.agg #[(I r43.1), (Sl a46 r43.2.1 c47), (I r43.2.2)])) wn (rv_load (cs := [(I r43.1), (Sl a46 r43.2.1 c47), (I r43.2.2)]) Try.underlying26 rfl ti26 e9 rfl hc83) rfl hJ
          trivial) ?_
        refine all_cons (by
          refine ⟨?_, ?_⟩
          ·rintro ⟨a88, c89⟩ ρ σm hJ hoff hdep
           have e3 := look_off (N := 119) (hoff 3 rfl) rfl
           obtain ⟨H, m⟩ := id hJ
           have hc84 := H.cells 3 rfl
           exact dp_v (v := (.agg #[(I aX_1.1), (Sl aaX_1_1 aX_1.2.1 caX_1_1), (I aX_1.2.2)])) wn (rv_load (cs := [(I aX_1.1), (Sl aaX_1_1 aX_1.2.1 caX_1_1), (I aX_1.2.2)]) Try.underlying47 rfl ti47 e3 rfl hc84) rfl hJ
          trivial) ?_
        refine all_cons (by
          refine ⟨?_, ?_⟩
          ·rintro ⟨a88, c89⟩ ρ σm hJ hoff hdep
           have e60 : look 119 ρ 60 = (.agg #[(I aX_1.1), (Sl aaX_1_1 aX_1.2.1 caX_1_1), (I aX_1.2.2)]) := hdep 1 rfl rfl 60 rfl
           obtain ⟨H, m⟩ := id hJ
           refine dp_cx wn (cx_call hc87 (ent_f hc87.fn (by show [look 119 ρ 60] = _; rw [e60])) hn0 (show Hp S0 σ0 _ ([Ch.ro 0 (Sl aaX_1_1 aX_1.2.1 caX_1_1) aX_1.2.1] ++ [Ch.big K39, Ch.ro 0 (Sl aaList_0 aList_0 caList_0) aList_0, Ch.ro 0 (Sl aaX_1_1 aX_1.2.1 caX_1_1) aX_1.2.1, Ch.bx n0 b1 0 [(I aX_1.1), (Sl aaX_1_1 aX_1.2.1 caX_1_1), (I aX_1.2.2)] [] [], Ch.own n0 n0 (Sl a31 r28.1 c32) r28.1, Ch.own n0 n0 (Sl a46 r43.2.1 c47) r43.2.1, Ch.bx n0 b50 0 [(I r43.1), (Sl a46 r43.2.1 c47), (I r43.2.2)] [] [], Ch.big K59]) from (H.sel' [2, 0, 1, 2, 3, 4, 5, 6, 7] rfl rfl))) ?_
           rintro _ σq ⟨_, ⟨a88x, c89x, rfl, rfl, ht90⟩, H2, m2⟩
           exact ⟨_, (a88x, c89x), rfl, rfl, ⟨H2.sel' [0, 1, 2, 3, 4, 5, 6, 7, 8] rfl rfl, m.comp0 (m2.mono (fun i h => by simp [cov, Ch.ro] at h)), ht90⟩, stab [0, 1] (by kernel_rfl) ⟨rfl, rfl, trivial⟩⟩
          trivial) ?_
        exact all_nil
       ·rintro ⟨a88, c89⟩ ρ σ91 hJ hoff hrel
        have e0 := look_off (N := 119) (hoff 0 rfl) rfl
        have e3 := look_off (N := 119) (hoff 3 rfl) rfl
        have e6 := look_off (N := 119) (hoff 6 rfl) rfl
        have e7 := look_off (N := 119) (hoff 7 rfl) rfl
        have e8 := look_off (N := 119) (hoff 8 rfl) rfl
        have e9 := look_off (N := 119) (hoff 9 rfl) rfl
        have e10 := look_off (N := 119) (hoff 10 rfl) rfl
        have e11 := look_off (N := 119) (hoff 11 rfl) rfl
        have e59 := hrel 0 rfl 59 rfl
        have e61 := hrel 2 rfl 61 rfl
        obtain ⟨H, -, ht90⟩ := (show Hp S0 σ0 σ91 [Ch.own n0 n0 (Sl a88 r85.2.1 c89) r85.2.1, Ch.big K39, Ch.ro 0 (Sl aaList_0 aList_0 caList_0) aList_0, Ch.ro 0 (Sl aaX_1_1 aX_1.2.1 caX_1_1) aX_1.2.1, Ch.bx n0 b1 0 [(I aX_1.1), (Sl aaX_1_1 aX_1.2.1 caX_1_1), (I aX_1.2.2)] [] [], Ch.own n0 n0 (Sl a31 r28.1 c32) r28.1, Ch.own n0 n0 (Sl a46 r43.2.1 c47) r43.2.1, Ch.bx n0 b50 0 [(I r43.1), (Sl a46 r43.2.1 c47), (I r43.2.2)] [] [], Ch.big K59] ∧ Md (cov []) σ81 σ91 ∧ c89 = r85.2.1.length from hJ)
        clear hJ Hs
        rw [fr_lookL (L := [(0, (Sl aaList_0 aList_0 caList_0)), (3, (pt b1 0)), (6, (Sl a31 r28.1 c32)), (7, (B r28.2)), (8, (Sl a37 r34 c38)), (9, (pt b50 0)), (10, (Sl a57 r54.1 c58)), (11, (B r54.2)), (59, (.agg #[(I r43.1), (Sl a46 r43.2.1 c47), (I r43.2.2)])), (61, (.agg #[(I r85.1), (Sl a88 r85.2.1 c89), (I r85.2.2)]))]) ⟨e0, e3, e6, e7, e8, e9, e10, e11, e59, e61, trivial⟩]
        clear hoff hrel e0 e3 e6 e7 e8 e9 e10 e11 e59 e61
        obtain ⟨σ92, hw93, H, -⟩ := H.pub 0 rfl (Nat.le_refl _)
        rw [← hw93]; clear hw93
        replace H := H.roLow 0 0 rfl (Nat.zero_le _)
        obtain ⟨r94, hx95, h'⟩ := bind_some h
        clear h
        have h := h'; clear h'
        have hc96 := c_laws_eqItem (aa_0_1 := a46) (ca_0_1 := c47) (ab_1_1 := a88) (cb_1_1 := c89) hx95
        have hle := Nat.le_trans hn0 H.size
        refine st_call (cx_lend (Loan.lend (Loan.same Loan.nil)) hc96 (ent_f hc96.fn rfl) (show Hp S0 σ0 _ ([Ch.own n0 n0 (Sl a46 r43.2.1 c47) r43.2.1] ++ ([Ch.ro 0 (Sl a88 r85.2.1 c89) r85.2.1] ++ [Ch.ro 0 (Sl a88 r85.2.1 c89) r85.2.1, Ch.ro n0 (Sl a88 r85.2.1 c89) r85.2.1, Ch.big K39, Ch.ro 0 (Sl aaList_0 aList_0 caList_0) aList_0, Ch.ro 0 (Sl aaX_1_1 aX_1.2.1 caX_1_1) aX_1.2.1, Ch.bx n0 b1 0 [(I aX_1.1), (Sl aaX_1_1 aX_1.2.1 caX_1_1), (I aX_1.2.2)] [] [], Ch.own n0 n0 (Sl a31 r28.1 c32) r28.1, Ch.bx n0 b50 0 [(I r43.1), (Sl a46 r43.2.1 c47), (I r43.2.2)] [] [], Ch.big K59])) from (H.sel' [7, 0, 0, 1, 2, 3, 4, 5, 6, 8, 9] rfl rfl)) (by rintro _ _ _ ⟨rfl, rfl⟩; exact trivial)) wn ?_
        rintro _ σ97 ⟨_, ⟨rfl, rfl⟩, H, -, -⟩
        replace H : Hp S0 σ0 σ97 [Ch.own n0 n0 (Sl a46 r43.2.1 c47) r43.2.1, Ch.ro 0 (Sl a88 r85.2.1 c89) r85.2.1, Ch.ro n0 (Sl a88 r85.2.1 c89) r85.2.1, Ch.big K39, Ch.ro 0 (Sl aaList_0 aList_0 caList_0) aList_0, Ch.ro 0 (Sl aaX_1_1 aX_1.2.1 caX_1_1) aX_1.2.1, Ch.bx n0 b1 0 [(I aX_1.1), (Sl aaX_1_1 aX_1.2.1 caX_1_1), (I aX_1.2.2)] [] [], Ch.own n0 n0 (Sl a31 r28.1 c32) r28.1, Ch.bx n0 b50 0 [(I r43.1), (Sl a46 r43.2.1 c47), (I r43.2.2)] [] [], Ch.big K59] := H
        clear hle
        replace H : Hp S0 σ0 σ97 [Ch.own n0 n0 (Sl a46 r43.2.1 c47) r43.2.1, Ch.ro 0 (Sl a88 r85.2.1 c89) r85.2.1, Ch.ro n0 (Sl a88 r85.2.1 c89) r85.2.1, Ch.big K39, Ch.ro 0 (Sl aaList_0 aList_0 caList_0) aList_0, Ch.ro 0 (Sl aaX_1_1 aX_1.2.1 caX_1_1) aX_1.2.1, Ch.bx n0 b1 0 [(I aX_1.1), (Sl aaX_1_1 aX_1.2.1 caX_1_1), (I aX_1.2.2)] [] [], Ch.own n0 n0 (Sl a31 r28.1 c32) r28.1, Ch.bx n0 b50 0 [(I r43.1), (Sl a46 r43.2.1 c47), (I r43.2.2)] [] [], Ch.big K59] := H
        replace H : Hp S0 σ0 σ97 [Ch.own n0 n0 (Sl a46 r43.2.1 c47) r43.2.1, Ch.big K39, Ch.ro 0 (Sl aaList_0 aList_0 caList_0) aList_0, Ch.ro 0 (Sl aaX_1_1 aX_1.2.1 caX_1_1) aX_1.2.1, Ch.bx n0 b1 0 [(I aX_1.1), (Sl aaX_1_1 aX_1.2.1 caX_1_1), (I aX_1.2.2)] [] [], Ch.own n0 n0 (Sl a31 r28.1 c32) r28.1, Ch.bx n0 b50 0 [(I r43.1), (Sl a46 r43.2.1 c47), (I r43.2.2)] [] [], Ch.big K59] := H.sel' [0, 3, 4, 5, 6, 7, 8, 9] rfl rfl
        refine st (v := (B (!r94))) (rv_not rfl) ?_
        refine w_end ?_
        refine q_then ?_
        refine cd_cond (!r94) rfl (fun hb98 => ?_) (fun hb98 => ?_)
        ·replace h := bif_t hb98 h
         refine c_seq ?_
         refine rg ?_
         refine st (v := (B false)) (rv_assign rfl) ?_
         refine w_end ?_
         refine q_then ?_
         refine c_ret ?_
         refine q_then_r ?_
         obtain rfl := Option.some.inj h
         exact fin_ret (v := (B false)) (results_ok Try.results8 (res_tmp (v := (B false)) rfl res_nil) rfl) ⟨rfl, rfl⟩ (H.sel' [] rfl rfl)
        ·replace h := bif_f hb98 h
         refine c_skip ?_
         refine q_then ?_
         refine c_seq ?_
         refine rg ?_
         refine st (v := (I 1)) (rv_assign rfl) ?_
         refine w_end ?_
         refine q_then ?_
         refine c_seq ?_
         refine rg ?_
         refine st (v := (Sl a37 r34 c38)) (rv_move rfl) ?_
         refine st (v := (I 1)) (rv_move rfl) ?_
         obtain ⟨r99, hx100, h'⟩ := bind_some h
         clear h
         have h := h'; clear h'
         have hc101 := c_laws_markItemS (aa_0 := a37) (ca_0 := c38) (hK := hK40) hx100
         refine st_call (cx_call hc101 (ent_f hc101.fn rfl) hn0 (show Hp S0 σ0 _ ([Ch.big K39] ++ [Ch.own n0 n0 (Sl a46 r43.2.1 c47) r43.2.1, Ch.ro 0 (Sl aaList_0 aList_0 caList_0) aList_0, Ch.ro 0 (Sl aaX_1_1 aX_1.2.1 caX_1_1) aX_1.2.1, Ch.bx n0 b1 0 [(I aX_1.1), (Sl aaX_1_1 aX_1.2.1 caX_1_1), (I aX_1.2.2)] [] [], Ch.own n0 n0 (Sl a31 r28.1 c32) r28.1, Ch.bx n0 b50 0 [(I r43.1), (Sl a46 r43.2.1 c47), (I r43.2.2)] [] [], Ch.big K59]) from (H.sel' [1, 0, 2, 3, 4, 5, 6, 7] rfl rfl))) wn ?_
         rintro _ σ103 ⟨_, ⟨rfl, rfl, hn102⟩, H, -⟩
         replace H : Hp S0 σ0 σ103 [Ch.ro 0 (Sl a37 r99.2 c38) r99.2, Ch.own n0 n0 (Sl a46 r43.2.1 c47) r43.2.1, Ch.ro 0 (Sl aaList_0 aList_0 caList_0) aList_0, Ch.ro 0 (Sl aaX_1_1 aX_1.2.1 caX_1_1) aX_1.2.1, Ch.bx n0 b1 0 [(I aX_1.1), (Sl aaX_1_1 aX_1.2.1 caX_1_1), (I aX_1.2.2)] [] [], Ch.own n0 n0 (Sl a31 r28.1 c32) r28.1, Ch.bx n0 b50 0 [(I r43.1), (Sl a46 r43.2.1 c47), (I r43.2.2)] [] [], Ch.big K59] := H
         have hsl : (Sl a37 r34 c38) = (Sl a37 r99.2 c38) := sl_len hn102.symm
         try rw [hsl]
         try rw [hsl] at H
         clear hsl
         replace H : Hp S0 σ0 σ103 [Ch.own n0 n0 (Sl a46 r43.2.1 c47) r43.2.1, Ch.ro 0 (Sl aaList_0 aList_0 caList_0) aList_0, Ch.ro 0 (Sl aaX_1_1 aX_1.2.1 caX_1_1) aX_1.2.1, Ch.bx n0 b1 0 [(I aX_1.1), (Sl aaX_1_1 aX_1.2.1 caX_1_1), (I aX_1.2.2)] [] [], Ch.own n0 n0 (Sl a31 r28.1 c32) r28.1, Ch.bx n0 b50 0 [(I r43.1), (Sl a46 r43.2.1 c47), (I r43.2.2)] [] [], Ch.big K59] := H.sel' [1, 2, 3, 4, 5, 6, 7] rfl rfl
         refine st (v := (I r99.1)) (rv_assign rfl) ?_
         refine w_end ?_
         refine q_then ?_
         refine c_seq ?_
         refine rg ?_
         have hc104 := H.cells 5 rfl
         refine st (v := (.agg #[(I r43.1), (Sl a46 r43.2.1 c47), (I r43.2.2)])) (rv_load (cs := [(I r43.1), (Sl a46 r43.2.1 c47), (I r43.2.2)]) Try.underlying26 rfl ti26 rfl rfl hc104) ?_
         refine st (v := (I r99.1)) (rv_move rfl) ?_
         replace H := H.ownLow 0 0 0 rfl (Nat.zero_le _) (Nat.zero_le _)
         obtain ⟨r105, hx106, h'⟩ := bind_some h
         clear h
         have h := h'; clear h'
         have hc107 := c_laws_markItem (aa_0_1 := a46) (ca_0_1 := c47) hx106
         refine st_call (cx_call hc107 (ent_f hc107.fn rfl) hn0 (show Hp S0 σ0 _ ([Ch.own 0 0 (Sl a46 r43.2.1 c47) r43.2.1] ++ [Ch.ro 0 (Sl aaList_0 aList_0 caList_0) aList_0, Ch.ro 0 (Sl aaX_1_1 aX_1.2.1 caX_1_1) aX_1.2.1, Ch.bx n0 b1 0 [(I aX_1.1), (Sl aaX_1_1 aX_1.2.1 caX_1_1), (I aX_1.2.2)] [] [], Ch.own n0 n0 (Sl a31 r28.1 c32) r28.1, Ch.bx n0 b50 0 [(I r43.1), (Sl a46 r43.2.1 c47), (I r43.2.2)] [] [], Ch.big K59]) from (H.sel' [0, 1, 2, 3, 4, 5, 6] rfl rfl))) wn ?_
         rintro _ σ109 ⟨_, ⟨rfl, rfl, hn108⟩, H, -⟩
         replace H : Hp S0 σ0 σ109 [Ch.own 0 0 (Sl a46 r105.2 c47) r105.2, Ch.ro 0 (Sl aaList_0 aList_0 caList_0) aList_0, Ch.ro 0 (Sl aaX_1_1 aX_1.2.1 caX_1_1) aX_1.2.1, Ch.bx n0 b1 0 [(I aX_1.1), (Sl aaX_1_1 aX_1.2.1 caX_1_1), (I aX_1.2.2)] [] [], Ch.own n0 n0 (Sl a31 r28.1 c32) r28.1, Ch.bx n0 b50 0 [(I r43.1), (Sl a46 r43.2.1 c47), (I r43.2.2)] [] [], Ch.big K59] := H
         have hsl : (Sl a46 r43.2.1 c47) = (Sl a46 r105.2 c47) := sl_len hn108.symm
         try rw [hsl]
         try rw [hsl] at H
         clear hsl
         refine st (v := (I r105.1)) (rv_assign rfl) ?_
         refine w_end ?_
         refine q_then ?_
         refine c_seq ?_
         refine c_seq ?_
         obtain ⟨o110, hj, h'⟩ := bind_some h
         clear h
         refine c_cut (fun e a w => e = .normal ∧ ∃ (ρ : Nat → Value) (σ : St), a = fr 119 (updL ρ [(0, (Sl aaList_0 aList_0 caList_0)), (3, (pt b1 0)), (6, (Sl a31 r28.1 c32)), (7, (B r28.2)), (10, (Sl a57 r54.1 c58)), (82, (B o110))]) ∧ w = σ.w ∧ Hp S0 σ0 σ [Ch.ro 0 (Sl aaList_0 aList_0 caList_0) aList_0, Ch.ro 0 (Sl aaX_1_1 aX_1.2.1 caX_1_1) aX_1.2.1, Ch.bx n0 b1 0 [(I aX_1.1), (Sl aaX_1_1 aX_1.2.1 caX_1_1), (I aX_1.2.2)] [] [], Ch.own n0 n0 (Sl a31 r28.1 c32) r28.1, Ch.big K59]) ?_ ?_
         ·clear h'
          rename _ = some o110 => h
          refine rg ?_
          refine st (v := (I r105.1)) (rv_move rfl) ?_
          refine st (v := (B (decide (r105.1 < 0)))) (rv_lss (a := r105.1) (b := 0) rfl rfl) ?_
          refine st (v := (B (decide (r105.1 < 0)))) (rv_move rfl) ?_
          rcases Bool.eq_false_or_eq_true (decide (r105.1 < 0)) with hb111 | hb111
          ·replace h := bif_t hb111 h
           refine st_skip (congrArg some hb111) ?_
           refine st_skip (congrArg some hb111) ?_
           refine st_skip (congrArg some hb111) ?_
           refine st_skip (congrArg some hb111) ?_
           refine st (v := (B true)) (rv_pick_t (congrArg B hb111) rfl) ?_
           refine st (v := (B true)) (rv_move rfl) ?_
           refine st_skip rfl ?_
           refine st_skip rfl ?_
           refine st_skip rfl ?_
           refine st (v := (B true)) (rv_pick_t rfl rfl) ?_
           refine w_end ?_
           obtain rfl := Option.some.inj h
           exact ⟨rfl, _, σ109, fr_join ⟨rfl, rfl, rfl, rfl, rfl, rfl, trivial⟩, rfl, H.sel' [1, 2, 3, 4, 6] rfl rfl⟩
          ·replace h := bif_f hb111 h
           refine st_g (v := (Sl a57 r54.1 c58)) (congrArg some hb111) (rv_move rfl) ?_
           refine st_g (v := (Sl a31 r28.1 c32)) (congrArg some hb111) (rv_move rfl) ?_
           obtain ⟨r112, hx113, h'⟩ := bind_some h
           clear h
           have h := h'; clear h'
           have hc114 := c_laws_eqItemS (aa_0 := a57) (ca_0 := c58) (ab_1 := a31) (cb_1 := c32) hx113
           have hle := Nat.le_trans hn0 H.size
           refine st_call (cx_lend (Loan.lendB hK60.lends (Loan.lend Loan.nil)) hc114 (ent_f hc114.fn rfl) (show Hp S0 σ0 _ ([Ch.big K59, Ch.own n0 n0 (Sl a31 r28.1 c32) r28.1] ++ ([] ++ [Ch.own 0 0 (Sl a46 r105.2 c47) r105.2, Ch.ro 0 (Sl aaList_0 aList_0 caList_0) aList_0, Ch.ro 0 (Sl aaX_1_1 aX_1.2.1 caX_1_1) aX_1.2.1, Ch.bx n0 b1 0 [(I aX_1.1), (Sl aaX_1_1 aX_1.2.1 caX_1_1), (I aX_1.2.2)] [] [], Ch.bx n0 b50 0 [(I r43.1), (Sl a46 r105.2 c47), (I r43.2.2)] [] []])) from (H.sel' [6, 4, 0, 1, 2, 3, 5] rfl rfl)) (by rintro _ _ _ ⟨rfl, rfl⟩; exact trivial)) (wanted_yes rfl (by exact (congrArg some hb111))) ?_
           rintro _ σ115 ⟨_, ⟨rfl, rfl⟩, H, -, -⟩
           replace H : Hp S0 σ0 σ115 [Ch.big K59, Ch.own n0 n0 (Sl a31 r28.1 c32) r28.1, Ch.own 0 0 (Sl a46 r105.2 c47) r105.2, Ch.ro 0 (Sl aaList_0 aList_0 caList_0) aList_0, Ch.ro 0 (Sl aaX_1_1 aX_1.2.1 caX_1_1) aX_1.2.1, Ch.bx n0 b1 0 [(I aX_1.1), (Sl aaX_1_1 aX_1.2.1 caX_1_1), (I aX_1.2.2)] [] [], Ch.bx n0 b50 0 [(I r43.1), (Sl a46 r105.2 c47), (I r43.2.2)] [] []] := H
           clear hle
           replace H : Hp S0 σ0 σ115 [Ch.big K59, Ch.own n0 n0 (Sl a31 r28.1 c32) r28.1, Ch.own 0 0 (Sl a46 r105.2 c47) r105.2, Ch.ro 0 (Sl aaList_0 aList_0 caList_0) aList_0, Ch.ro 0 (Sl aaX_1_1 aX_1.2.1 caX_1_1) aX_1.2.1, Ch.bx n0 b1 0 [(I aX_1.1), (Sl aaX_1_1 aX_1.2.1 caX_1_1), (I aX_1.2.2)] [] [], Ch.bx n0 b50 0 [(I r43.1), (Sl a46 r105.2 c47), (I r43.2.2)] [] []] := H
           refine st_g (v := (B (!r112))) (congrArg some hb111) (rv_not rfl) ?_
           refine st (v := (B (!r112))) (rv_pick_f (congrArg B hb111) rfl) ?_
           refine st (v := (B (!r112))) (rv_move rfl) ?_
           rcases Bool.eq_false_or_eq_true (!r112) with hb116 | hb116
           ·replace h := bif_t hb116 h
            refine st_skip (congrArg some hb116) ?_
            refine st_skip (congrArg some hb116) ?_
            refine st_skip (congrArg some hb116) ?_
            refine st (v := (B true)) (rv_pick_t (congrArg B hb116) rfl) ?_
            refine w_end ?_
            obtain rfl := Option.some.inj h
            exact ⟨rfl, _, σ115, fr_join ⟨rfl, rfl, rfl, rfl, rfl, rfl, trivial⟩, rfl, H.sel' [3, 4, 5, 1, 0] rfl rfl⟩
           ·replace h := bif_f hb116 h
            refine st_g (v := (B r54.2)) (congrArg some hb116) (rv_move rfl) ?_
            refine st_g (v := (B r28.2)) (congrArg some hb116) (rv_move rfl) ?_
            refine st_g (v := (B (r54.2 != r28.2))) (congrArg some hb116) (rv_bneq Try.underlying4 rfl rfl) ?_
            refine st (v := (B (r54.2 != r28.2))) (rv_pick_f (congrArg B hb116) rfl) ?_
            refine w_end ?_
            obtain rfl := Option.some.inj h
            exact ⟨rfl, _, σ115, fr_join ⟨rfl, rfl, rfl, rfl, rfl, rfl, trivial⟩, rfl, H.sel' [3, 4, 5, 1, 0] rfl rfl⟩
         ·clear hj
          have h := h'
          clear h' H
          rintro e a w ⟨rfl, ρ, σ117, rfl, rfl, H⟩
          refine q_then ?_
          refine cd_cond o110 rfl (fun hb118 => ?_) (fun hb118 => ?_)
          ·replace h := bif_t hb118 h
           refine c_seq ?_
           refine rg ?_
           refine st (v := (B false)) (rv_assign rfl) ?_
           refine w_end ?_
           refine q_then ?_
           refine c_ret ?_
           refine q_then_r ?_
           obtain rfl := Option.some.inj h
           exact fin_ret (v := (B false)) (results_ok Try.results8 (res_tmp (v := (B false)) rfl res_nil) rfl) ⟨rfl, rfl⟩ (H.sel' [] rfl rfl)
          ·replace h := bif_f hb118 h
           refine c_skip ?_
           refine q_then ?_
           refine c_seq ?_
           refine rg ?_
           refine st (v := (I 1)) (rv_assign rfl) ?_
           refine w_end ?_
           refine q_then ?_
           refine c_seq ?_
           refine rg ?_
           refine st (v := (Sl a57 r54.1 c58)) (rv_move rfl) ?_
           refine st (v := (I 1)) (rv_move rfl) ?_
           obtain ⟨r119, hx120, h'⟩ := bind_some h
           clear h
           have h := h'; clear h'
           have hc121 := c_laws_markItemS (aa_0 := a57) (ca_0 := c58) (hK := hK60) hx120
           refine st_call (cx_call hc121 (ent_f hc121.fn rfl) hn0 (show Hp S0 σ0 _ ([Ch.big K59] ++ [Ch.ro 0 (Sl aaList_0 aList_0 caList_0) aList_0, Ch.ro 0 (Sl aaX_1_1 aX_1.2.1 caX_1_1) aX_1.2.1, Ch.bx n0 b1 0 [(I aX_1.1), (Sl aaX_1_1 aX_1.2.1 caX_1_1), (I aX_1.2.2)] [] [], Ch.own n0 n0 (Sl a31 r28.1 c32) r28.1]) from (H.sel' [4, 0, 1, 2, 3] rfl rfl))) wn ?_
           rintro _ σ123 ⟨_, ⟨rfl, rfl, hn122⟩, H, -⟩
           replace H : Hp S0 σ0 σ123 [Ch.ro 0 (Sl a57 r119.2 c58) r119.2, Ch.ro 0 (Sl aaList_0 aList_0 caList_0) aList_0, Ch.ro 0 (Sl aaX_1_1 aX_1.2.1 caX_1_1) aX_1.2.1, Ch.bx n0 b1 0 [(I aX_1.1), (Sl aaX_1_1 aX_1.2.1 caX_1_1), (I aX_1.2.2)] [] [], Ch.own n0 n0 (Sl a31 r28.1 c32) r28.1] := H
           have hsl : (Sl a57 r54.1 c58) = (Sl a57 r119.2 c58) := sl_len hn122.symm
           try rw [hsl]
           try rw [hsl] at H
           clear hsl
           refine st (v := (I r119.1)) (rv_assign rfl) ?_
           refine w_end ?_
           refine q_then ?_
           refine c_seq ?_
           refine rg ?_
           refine st (v := (I 1)) (rv_assign rfl) ?_
           refine w_end ?_
           refine q_then ?_
           refine c_seq ?_
           refine rg ?_
           refine st (v := (Sl a57 r119.2 c58)) (rv_move rfl) ?_
           refine st (v := (I 1)) (rv_move rfl) ?_
           obtain ⟨r124, hx125, h'⟩ := bind_some h
           clear h
           have h := h'; clear h'
           have hc126 := c_laws_heldItemS (aa_0 := a57) (ca_0 := c58) hx125
           refine st_call (cx_call hc126 (ent_f hc126.fn rfl) hn0 (show Hp S0 σ0 _ ([Ch.ro 0 (Sl a57 r119.2 c58) r119.2] ++ [Ch.ro 0 (Sl a57 r119.2 c58) r119.2, Ch.ro 0 (Sl aaList_0 aList_0 caList_0) aList_0, Ch.ro 0 (Sl aaX_1_1 aX_1.2.1 caX_1_1) aX_1.2.1, Ch.bx n0 b1 0 [(I aX_1.1), (Sl aaX_1_1 aX_1.2.1 caX_1_1), (I aX_1.2.2)] [] [], Ch.own n0 n0 (Sl a31 r28.1 c32) r28.1]) from (H.sel' [0, 0, 1, 2, 3, 4] rfl rfl))) wn ?_
           rintro _ σ127 ⟨_, ⟨rfl, rfl⟩, H, -⟩
           replace H : Hp S0 σ0 σ127 [Ch.ro 0 (Sl a57 r119.2 c58) r119.2, Ch.ro 0 (Sl aaList_0 aList_0 caList_0) aList_0, Ch.ro 0 (Sl aaX_1_1 aX_1.2.1 caX_1_1) aX_1.2.1, Ch.bx n0 b1 0 [(I aX_1.1), (Sl aaX_1_1 aX_1.2.1 caX_1_1), (I aX_1.2.2)] [] [], Ch.own n0 n0 (Sl a31 r28.1 c32) r28.1] := H
           refine st (v := (I r124)) (rv_assign rfl) ?_
           refine w_end ?_
           refine q_then ?_
           refine c_seq ?_
           refine c_seq ?_
           refine rg ?_
           refine st (v := (I r124)) (rv_move rfl) ?_
           refine st (v := (B (decide (r124 < 0)))) (rv_lss (a := r124) (b := 0) rfl rfl) ?_
           refine w_end ?_
           refine q_then ?_
           refine cd_cond (decide (r124 < 0)) rfl (fun hb128 => ?_) (fun hb128 => ?_)
           ·replace h := bif_t hb128 h
            refine c_seq ?_
            refine rg ?_
            refine st (v := (B false)) (rv_assign rfl) ?_
            refine w_end ?_
            refine q_then ?_
            refine c_ret ?_
            refine q_then_r ?_
            obtain rfl := Option.some.inj h
            exact fin_ret (v := (B false)) (results_ok Try.results8 (res_tmp (v := (B false)) rfl res_nil) rfl) ⟨rfl, rfl⟩ (H.sel' [] rfl rfl)
           ·replace h := bif_f hb128 h
            refine c_skip ?_
            refine q_then ?_
            refine c_seq ?_
            refine c_seq ?_
            refine rg ?_
            refine st (v := (I r124)) (rv_move rfl) ?_
            refine st (v := (I r119.1)) (rv_move rfl) ?_
            refine st (v := (B (r124 != r119.1))) (rv_neq (a := r124) (b := r119.1) rfl rfl) ?_
            refine w_end ?_
            refine q_then ?_
            refine cd_cond (r124 != r119.1) rfl (fun hb129 => ?_) (fun hb129 => ?_)
            ·replace h := bif_t hb129 h
             refine c_seq ?_
             refine rg ?_
             refine st (v := (B false)) (rv_assign rfl) ?_
             refine w_end ?_
             refine q_then ?_
             refine c_ret ?_
             refine q_then_r ?_
             obtain rfl := Option.some.inj h
             exact fin_ret (v := (B false)) (results_ok Try.results8 (res_tmp (v := (B false)) rfl res_nil) rfl) ⟨rfl, rfl⟩ (H.sel' [] rfl rfl)
            ·replace h := bif_f hb129 h
             refine c_skip ?_
             refine q_then ?_
             refine c_seq ?_
             obtain ⟨r130, hx131, h'⟩ := bind_some h
             clear h
             have h := h'; clear h'
             have hc132 := c_laws_toItemS (aa_0 := aaList_0) (ca_0 := caList_0) hx131
             have hc137 := H.cells 3 rfl
             obtain ⟨r138, hx139, h'⟩ := bind_some h
             clear h
             have h := h'; clear h'
             have hc140 := c_laws_toItem (aa_0_1 := aaX_1_1) (ca_0_1 := caX_1_1) hx139
             obtain ⟨r144, hx145, h'⟩ := bind_some h
             clear h
             have h := h'; clear h'
             have hc146 := fun (a133 : Option Addr) (c134 : Nat) (a141 : Option Addr) (c142 : Nat) => c_impl_PutItemD (alist_0 := a133) (clist_0 := c134) (ax_1_1 := a141) (cx_1_1 := c142) hx145
             have Hs := H
             refine rg2 (σ := σ127) (Nm := (Option Addr) × (Nat) × (List Ch) × (Option Addr) × (Nat) × (Option Addr) × (Nat) × (List Ch)) 9 [1, 3, 4] [[false, false, false], [true, false, false], [true, true, false], [true, true, true]] [[(0, 0)], [(0, 1)], [(0, 0), (1, 1)], [(1, 2)], [(2, 3)], [(3, 3)], [(3, 3)], [(3, 3)], [(3, 3)]] 3 [fun ((a133, c134, K135, a141, c142, a147, c148, K149) : (Option Addr) × (Nat) × (List Ch) × (Option Addr) × (Nat) × (Option Addr) × (Nat) × (List Ch)) => fun σm => Hp S0 σ0 σm [Ch.ro 0 (Sl a57 r119.2 c58) r119.2, Ch.ro 0 (Sl aaList_0 aList_0 caList_0) aList_0, Ch.ro 0 (Sl aaX_1_1 aX_1.2.1 caX_1_1) aX_1.2.1, Ch.bx n0 b1 0 [(I aX_1.1), (Sl aaX_1_1 aX_1.2.1 caX_1_1), (I aX_1.2.2)] [] [], Ch.own n0 n0 (Sl a31 r28.1 c32) r28.1] ∧ Md (cov []) σ127 σm, fun ((a133, c134, K135, a141, c142, a147, c148, K149) : (Option Addr) × (Nat) × (List Ch) × (Option Addr) × (Nat) × (Option Addr) × (Nat) × (List Ch)) => fun σm => Hp S0 σ0 σm [Ch.ro 0 (Sl a133 r130 c134) r130, Ch.ro 0 (Sl a57 r119.2 c58) r119.2, Ch.ro 0 (Sl aaList_0 aList_0 caList_0) aList_0, Ch.ro 0 (Sl aaX_1_1 aX_1.2.1 caX_1_1) aX_1.2.1, Ch.bx n0 b1 0 [(I aX_1.1), (Sl aaX_1_1 aX_1.2.1 caX_1_1), (I aX_1.2.2)] [] [], Ch.own n0 n0 (Sl a31 r28.1 c32) r28.1] ∧ Md (fun i => (cov []) i ∨ (fun i => (cov [Ch.ro 0 (Sl aaList_0 aList_0 caList_0) aList_0]) i ∨ (cov K135) i) i) σ127 σm, fun ((a133, c134, K135, a141, c142, a147, c148, K149) : (Option Addr) × (Nat) × (List Ch) × (Option Addr) × (Nat) × (Option Addr) × (Nat) × (List Ch)) => fun σm => Hp S0 σ0 σm [Ch.ro 0 (Sl a141 r138.2.1 c142) r138.2.1, Ch.ro 0 (Sl a133 r130 c134) r130, Ch.ro 0 (Sl a57 r119.2 c58) r119.2, Ch.ro 0 (Sl aaList_0 aList_0 caList_0) aList_0, Ch.ro 0 (Sl aaX_1_1 aX_1.2.1 caX_1_1) aX_1.2.1, Ch.bx n0 b1 0 [(I aX_1.1), (Sl aaX_1_1 aX_1.2.1 caX_1_1), (I aX_1.2.2)] [] [], Ch.own n0 n0 (Sl a31 r28.1 c32) r28.1] ∧ Md (fun i => (fun i => (cov []) i ∨ (fun i => (cov [Ch.ro 0 (Sl aaList_0 aList_0 caList_0) aList_0]) i ∨ (cov K135) i) i) i ∨ (fun i => (cov [Ch.ro 0 (Sl aaX_1_1 aX_1.2.1 caX_1_1) aX_1.2.1]) i ∨ (fun b => blk (Sl a141 r138.2.1 c142) = some b) i) i) σ127 σm ∧ c142 = r138.2.1.length, fun ((a133, c134, K135, a141, c142, a147, c148, K149) : (Option Addr) × (Nat) × (List Ch) × (Option Addr) × (Nat) × (Option Addr) × (Nat) × (List Ch)) => fun σm => Hp S0 σ0 σm [Ch.big K149, Ch.ro 0 (Sl a141 r138.2.1 c142) r138.2.1, Ch.ro 0 (Sl a133 r130 c134) r130, Ch.ro 0 (Sl a57 r119.2 c58) r119.2, Ch.ro 0 (Sl aaList_0 aList_0 caList_0) aList_0, Ch.ro 0 (Sl aaX_1_1 aX_1.2.1 caX_1_1) aX_1.2.1, Ch.bx n0 b1 0 [(I aX_1.1), (Sl aaX_1_1 aX_1.2.1 caX_1_1), (I aX_1.2.2)] [] [], Ch.own n0 n0 (Sl a31 r28.1 c32) r28.1] ∧ Md (fun i => (fun i => (cov []) i ∨ (fun i => (cov [Ch.ro 0 (Sl aaList_0 aList_0 caList_0) aList_0]) i ∨ (cov K135) i) i) i ∨ (fun i => (cov [Ch.ro 0 (Sl aaX_1_1 aX_1.2.1 caX_1_1) aX_1.2.1]) i ∨ (fun b => blk (Sl a141 r138.2.1 c142) = some b) i) i) σ127 σm ∧ c142 = r138.2.1.length ∧ Dp 0 (Sl a147 r144.1 c148) r144.1 K149] [fun ((a133, c134, K135, a141, c142, a147, c148, K149) : (Option Addr) × (Nat) × (List Ch) × (Option Addr) × (Nat) × (Option Addr) × (Nat) × (List Ch)) => (Sl aaList_0 aList_0 caList_0), fun ((a133, c134, K135, a141, c142, a147, c148, K149) : (Option Addr) × (Nat) × (List Ch) × (Option Addr) × (Nat) × (Option Addr) × (Nat) × (List Ch)) => (Sl a133 r130 c134), fun ((a133, c134, K135, a141, c142, a147, c148, K149) : (Option Addr) × (Nat) × (List Ch) × (Option Addr) × (Nat) × (Option Addr) × (Nat) × (List Ch)) => (.agg #[(I aX_1.1), (Sl aaX_1_1 aX_1.2.1 caX_1_1), (I aX_1.2.2)]), fun ((a133, c134, K135, a141, c142, a147, c148, K149) : (Option Addr) × (Nat) × (List Ch) × (Option Addr) × (Nat) × (Option Addr) × (Nat) × (List Ch)) => (.agg #[(I r138.1), (Sl a141 r138.2.1 c142), (I r138.2.2)]), fun ((a133, c134, K135, a141, c142, a147, c148, K149) : (Option Addr) × (Nat) × (List Ch) × (Option Addr) × (Nat) × (Option Addr) × (Nat) × (List Ch)) => (.tuple #[(Sl a147 r144.1 c148), (B r144.2)]), fun ((a133, c134, K135, a141, c142, a147, c148, K149) : (Option Addr) × (Nat) × (List Ch) × (Option Addr) × (Nat) × (Option Addr) × (Nat) × (List Ch)) => (.tuple #[(Sl a147 r144.1 c148), (B r144.2)]), fun ((a133, c134, K135, a141, c142, a147, c148, K149) : (Option Addr) × (Nat) × (List Ch) × (Option Addr) × (Nat) × (Option Addr) × (Nat) × (List Ch)) => (Sl a147 r144.1 c148), fun ((a133, c134, K135, a141, c142, a147, c148, K149) : (Option Addr) × (Nat) × (List Ch) × (Option Addr) × (Nat) × (Option Addr) × (Nat) × (List Ch)) => (B r144.2), fun ((a133, c134, K135, a141, c142, a147, c148, K149) : (Option Addr) × (Nat) × (List Ch) × (Option Addr) × (Nat) × (Option Addr) × (Nat) × (List Ch)) => (Sl a147 r144.1 c148)] (none, 0, [], none, 0, none, 0, []) (by kernel_rfl) (by kernel_rfl) ?_ ?_ ?_
             ·intro σm m0
              exact ⟨H.grow (m0.mono fun _ h => h.elim), m0⟩
             ·refine ac rfl (by
                intro k; rintro ⟨a133, c134, K135, a141, c142, a147, c148, K149⟩ ρ σm hJ hoff hdep
                have e0 := look_off (N := 119) (hoff 0 rfl) rfl
                exact dp_v (v := (Sl aaList_0 aList_0 caList_0)) wn (rv_move e0) rfl hJ) ?_
              refine all_cons (by
                refine ⟨?_, ?_⟩
                ·rintro ⟨a133, c134, K135, a141, c142, a147, c148, K149⟩ ρ σm hJ hoff hdep
                 have e95 : look 119 ρ 95 = (Sl aaList_0 aList_0 caList_0) := hdep 0 rfl rfl 95 rfl
                 obtain ⟨H, m⟩ := id hJ
                 refine dp_cx wn (cx_call hc132 (ent_f hc132.fn (by show [look 119 ρ 95] = _; rw [e95])) hn0 (show Hp S0 σ0 _ ([Ch.ro 0 (Sl aaList_0 aList_0 caList_0) aList_0] ++ [Ch.ro 0 (Sl a57 r119.2 c58) r119.2, Ch.ro 0 (Sl aaList_0 aList_0 caList_0) aList_0, Ch.ro 0 (Sl aaX_1_1 aX_1.2.1 caX_1_1) aX_1.2.1, Ch.bx n0 b1 0 [(I aX_1.1), (Sl aaX_1_1 aX_1.2.1 caX_1_1), (I aX_1.2.2)] [] [], Ch.own n0 n0 (Sl a31 r28.1 c32) r28.1]) from (H.sel' [1, 0, 1, 2, 3, 4] rfl rfl))) ?_
                 rintro _ σq ⟨_, ⟨a133x, c134x, K135x, rfl, rfl, hK136⟩, H2, m2⟩
                 obtain ⟨σr0, hwr0, H2, mr0⟩ := H2.dpPub 0 rfl hK136
                 exact ⟨_, (a133x, c134x, K135x, a141, c142, a147, c148, K149), hwr0, rfl, ⟨H2.sel' [0, 1, 2, 3, 4, 5] rfl rfl, m.comp (m2.comp mr0)⟩, stab [0, 2] (by kernel_rfl) ⟨rfl, rfl, trivial⟩⟩
                trivial) ?_
              refine all_cons (by
                refine ⟨?_, ?_⟩
                ·rintro ⟨a133, c134, K135, a141, c142, a147, c148, K149⟩ ρ σm hJ hoff hdep
                 have e3 := look_off (N := 119) (hoff 3 rfl) rfl
                 obtain ⟨H, m⟩ := id hJ
                 have hc137 := H.cells 3 rfl
                 exact dp_v (v := (.agg #[(I aX_1.1), (Sl aaX_1_1 aX_1.2.1 caX_1_1), (I aX_1.2.2)])) wn (rv_load (cs := [(I aX_1.1), (Sl aaX_1_1 aX_1.2.1 caX_1_1), (I aX_1.2.2)]) Try.underlying47 rfl ti47 e3 rfl hc137) rfl hJ
                refine ⟨?_, ?_⟩
                ·rintro ⟨a133, c134, K135, a141, c142, a147, c148, K149⟩ ρ σm hJ hoff hdep
                 have e3 := look_off (N := 119) (hoff 3 rfl) rfl
                 obtain ⟨H, m⟩ := id hJ
                 have hc137 := H.cells 4 rfl
                 exact dp_v (v := (.agg #[(I aX_1.1), (Sl aaX_1_1 aX_1.2.1 caX_1_1), (I aX_1.2.2)])) wn (rv_load (cs := [(I aX_1.1), (Sl aaX_1_1 aX_1.2.1 caX_1_1), (I aX_1.2.2)]) Try.underlying47 rfl ti47 e3 rfl hc137) rfl hJ
                trivial) ?_
              refine all_cons (by
                refine ⟨?_, ?_⟩
                ·rintro ⟨a133, c134, K135, a141, c142, a147, c148, K149⟩ ρ σm hJ hoff hdep
                 have e97 : look 119 ρ 97 = (.agg #[(I aX_1.1), (Sl aaX_1_1 aX_1.2.1 caX_1_1), (I aX_1.2.2)]) := hdep 2 rfl rfl 97 rfl
                 obtain ⟨H, m⟩ := id hJ
                 refine dp_cx wn (cx_call hc140 (ent_f hc140.fn (by show [look 119 ρ 97] = _; rw [e97])) hn0 (show Hp S0 σ0 _ ([Ch.ro 0 (Sl aaX_1_1 aX_1.2.1 caX_1_1) aX_1.2.1] ++ [Ch.ro 0 (Sl a133 r130 c134) r130, Ch.ro 0 (Sl a57 r119.2 c58) r119.2, Ch.ro 0 (Sl aaList_0 aList_0 caList_0) aList_0, Ch.ro 0 (Sl aaX_1_1 aX_1.2.1 caX_1_1) aX_1.2.1, Ch.bx n0 b1 0 [(I aX_1.1), (Sl aaX_1_1 aX_1.2.1 caX_1_1), (I aX_1.2.2)] [] [], Ch.own n0 n0 (Sl a31 r28.1 c32) r28.1]) from (H.sel' [3, 0, 1, 2, 3, 4, 5] rfl rfl))) ?_
                 rintro _ σq ⟨_, ⟨a141x, c142x, rfl, rfl, ht143⟩, H2, m2⟩
                 obtain ⟨σr0, hwr0, H2, mr0⟩ := H2.pubSc 0 rfl
                 exact ⟨_, (a133, c134, K135, a141x, c142x, a147, c148, K149), hwr0, rfl, ⟨H2.sel' [0, 1, 2, 3, 4, 5, 6] rfl rfl, m.comp (m2.comp mr0), ht143⟩, stab [0, 1, 2] (by kernel_rfl) ⟨rfl, rfl, rfl, trivial⟩⟩
                trivial) ?_
              refine all_cons (by
                refine ⟨?_, ?_⟩
                ·rintro ⟨a133, c134, K135, a141, c142, a147, c148, K149⟩ ρ σm hJ hoff hdep
                 have e96 : look 119 ρ 96 = (Sl a133 r130 c134) := hdep 1 rfl rfl 96 rfl
                 have e98 : look 119 ρ 98 = (.agg #[(I r138.1), (Sl a141 r138.2.1 c142), (I r138.2.2)]) := hdep 3 rfl rfl 98 rfl
                 obtain ⟨H, m, ht143⟩ := id hJ
                 refine dp_cx wn (cx_call (hc146 a133 c134 a141 c142) (ent_f (hc146 a133 c134 a141 c142).fn (by show [look 119 ρ 96, look 119 ρ 98] = _; rw [e96, e98])) hn0 (show Hp S0 σ0 _ ([Ch.ro 0 (Sl a133 r130 c134) r130, Ch.ro 0 (Sl a141 r138.2.1 c142) r138.2.1] ++ [Ch.ro 0 (Sl a141 r138.2.1 c142) r138.2.1, Ch.ro 0 (Sl a133 r130 c134) r130, Ch.ro 0 (Sl a57 r119.2 c58) r119.2, Ch.ro 0 (Sl aaList_0 aList_0 caList_0) aList_0, Ch.ro 0 (Sl aaX_1_1 aX_1.2.1 caX_1_1) aX_1.2.1, Ch.bx n0 b1 0 [(I aX_1.1), (Sl aaX_1_1 aX_1.2.1 caX_1_1), (I aX_1.2.2)] [] [], Ch.own n0 n0 (Sl a31 r28.1 c32) r28.1]) from (H.sel' [1, 0, 0, 1, 2, 3, 4, 5, 6] rfl rfl))) ?_
                 rintro _ σq ⟨_, ⟨a147x, c148x, K149x, rfl, rfl, hK150⟩, H2, m2⟩
                 exact ⟨_, (a133, c134, K135, a141, c142, a147x, c148x, K149x), rfl, rfl, ⟨H2.sel' [0, 1, 2, 3, 4, 5, 6, 7] rfl rfl, m.comp0 (m2.mono (fun i h => by simp [cov, Ch.ro] at h)), ht143, hK150⟩, stab [0, 1, 2, 3] (by kernel_rfl) ⟨rfl, rfl, rfl, rfl, trivial⟩⟩
                trivial) ?_
              refine ac rfl (by
                intro k; rintro ⟨a133, c134, K135, a141, c142, a147, c148, K149⟩ ρ σm hJ hoff hdep
                have e99 := hdep 4 rfl rfl 99 rfl
                exact dp_v (v := (.tuple #[(Sl a147 r144.1 c148), (B r144.2)])) wn (rv_move e99) rfl hJ) ?_
              refine ac rfl (by
                intro k; rintro ⟨a133, c134, K135, a141, c142, a147, c148, K149⟩ ρ σm hJ hoff hdep
                have e94 := hdep 5 rfl rfl 94 rfl
                exact dp_v (v := (Sl a147 r144.1 c148)) wn (rv_extract e94 rfl) rfl hJ) ?_
              refine ac rfl (by
                intro k; rintro ⟨a133, c134, K135, a141, c142, a147, c148, K149⟩ ρ σm hJ hoff hdep
                have e94 := hdep 5 rfl rfl 94 rfl
                exact dp_v (v := (B r144.2)) wn (rv_extract e94 rfl) rfl hJ) ?_
              refine ac rfl (by
                intro k; rintro ⟨a133, c134, K135, a141, c142, a147, c148, K149⟩ ρ σm hJ hoff hdep
                have e100 := hdep 6 rfl rfl 100 rfl
                exact dp_v (v := (Sl a147 r144.1 c148)) wn (rv_assign e100) rfl hJ) ?_
              exact all_nil
             ·rintro ⟨a133, c134, K135, a141, c142, a147, c148, K149⟩ ρ σ151 hJ hoff hrel
              have e6 := look_off (N := 119) (hoff 6 rfl) rfl
              have e7 := look_off (N := 119) (hoff 7 rfl) rfl
              have e10 := look_off (N := 119) (hoff 10 rfl) rfl
              have e13 := look_off (N := 119) (hoff 13 rfl) rfl
              have e15 := hrel 8 rfl 15 rfl
              have e101 := hrel 7 rfl 101 rfl
              obtain ⟨H, -, ht143, hK150⟩ := (show Hp S0 σ0 σ151 [Ch.big K149, Ch.ro 0 (Sl a141 r138.2.1 c142) r138.2.1, Ch.ro 0 (Sl a133 r130 c134) r130, Ch.ro 0 (Sl a57 r119.2 c58) r119.2, Ch.ro 0 (Sl aaList_0 aList_0 caList_0) aList_0, Ch.ro 0 (Sl aaX_1_1 aX_1.2.1 caX_1_1) aX_1.2.1, Ch.bx n0 b1 0 [(I aX_1.1), (Sl aaX_1_1 aX_1.2.1 caX_1_1), (I aX_1.2.2)] [] [], Ch.own n0 n0 (Sl a31 r28.1 c32) r28.1] ∧ Md (fun i => (fun i => (cov []) i ∨ (fun i => (cov [Ch.ro 0 (Sl aaList_0 aList_0 caList_0) aList_0]) i ∨ (cov K135) i) i) i ∨ (fun i => (cov [Ch.ro 0 (Sl aaX_1_1 aX_1.2.1 caX_1_1) aX_1.2.1]) i ∨ (fun b => blk (Sl a141 r138.2.1 c142) = some b) i) i) σ127 σ151 ∧ c142 = r138.2.1.length ∧ Dp 0 (Sl a147 r144.1 c148) r144.1 K149 from hJ)
              clear hJ Hs
              rw [fr_lookL (L := [(6, (Sl a31 r28.1 c32)), (7, (B r28.2)), (10, (Sl a57 r119.2 c58)), (13, (I r119.1)), (15, (Sl a147 r144.1 c148)), (101, (B r144.2))]) ⟨e6, e7, e10, e13, e15, e101, trivial⟩]
              clear hoff hrel e6 e7 e10 e13 e15 e101
              refine st (v := (B r144.2)) (rv_assign rfl) ?_
              refine w_end ?_
              refine q_then ?_
              refine c_seq ?_
              refine c_seq ?_
              obtain ⟨o152, hj, h'⟩ := bind_some h
              clear h
              refine c_cut (fun e a w => e = .normal ∧ ∃ (ρ : Nat → Value) (σ : St), a = fr 119 (updL ρ [(10, (Sl a57 r119.2 c58)), (13, (I r119.1)), (110, (B o152))]) ∧ w = σ.w ∧ Hp S0 σ0 σ [Ch.ro 0 (Sl a57 r119.2 c58) r119.2]) ?_ ?_
              ·clear h'
               rename _ = some o152 => h
               refine rg ?_
               refine st (v := (Sl a147 r144.1 c148)) (rv_move rfl) ?_
               refine st (v := (Sl a31 r28.1 c32)) (rv_move rfl) ?_
               obtain ⟨σ153, hw154, H, -⟩ := H.pub 7 rfl (Nat.le_refl _)
               rw [← hw154]; clear hw154
               replace H := H.roLow 0 0 rfl (Nat.zero_le _)
               obtain ⟨r155, hx156, h'⟩ := bind_some h
               clear h
               have h := h'; clear h'
               have hc157 := c_laws_eqItemS (aa_0 := a147) (ca_0 := c148) (ab_1 := a31) (cb_1 := c32) hx156
               have hle := Nat.le_trans hn0 H.size
               refine st_call (cx_lend (Loan.lendB hK150.lends (Loan.same Loan.nil)) hc157 (ent_f hc157.fn rfl) (show Hp S0 σ0 _ ([Ch.big K149] ++ ([Ch.ro 0 (Sl a31 r28.1 c32) r28.1] ++ [Ch.ro 0 (Sl a31 r28.1 c32) r28.1, Ch.ro n0 (Sl a31 r28.1 c32) r28.1, Ch.ro 0 (Sl a141 r138.2.1 c142) r138.2.1, Ch.ro 0 (Sl a133 r130 c134) r130, Ch.ro 0 (Sl a57 r119.2 c58) r119.2, Ch.ro 0 (Sl aaList_0 aList_0 caList_0) aList_0, Ch.ro 0 (Sl aaX_1_1 aX_1.2.1 caX_1_1) aX_1.2.1, Ch.bx n0 b1 0 [(I aX_1.1), (Sl aaX_1_1 aX_1.2.1 caX_1_1), (I aX_1.2.2)] [] []])) from (H.sel' [2, 0, 0, 1, 3, 4, 5, 6, 7, 8] rfl rfl)) (by rintro _ _ _ ⟨rfl, rfl⟩; exact trivial)) wn ?_
               rintro _ σ158 ⟨_, ⟨rfl, rfl⟩, H, -, -⟩
               replace H : Hp S0 σ0 σ158 [Ch.big K149, Ch.ro 0 (Sl a31 r28.1 c32) r28.1, Ch.ro n0 (Sl a31 r28.1 c32) r28.1, Ch.ro 0 (Sl a141 r138.2.1 c142) r138.2.1, Ch.ro 0 (Sl a133 r130 c134) r130, Ch.ro 0 (Sl a57 r119.2 c58) r119.2, Ch.ro 0 (Sl aaList_0 aList_0 caList_0) aList_0, Ch.ro 0 (Sl aaX_1_1 aX_1.2.1 caX_1_1) aX_1.2.1, Ch.bx n0 b1 0 [(I aX_1.1), (Sl aaX_1_1 aX_1.2.1 caX_1_1), (I aX_1.2.2)] [] []] := H
               clear hle
               replace H : Hp S0 σ0 σ158 [Ch.big K149, Ch.ro 0 (Sl a31 r28.1 c32) r28.1, Ch.ro n0 (Sl a31 r28.1 c32) r28.1, Ch.ro 0 (Sl a141 r138.2.1 c142) r138.2.1, Ch.ro 0 (Sl a133 r130 c134) r130, Ch.ro 0 (Sl a57 r119.2 c58) r119.2, Ch.ro 0 (Sl aaList_0 aList_0 caList_0) aList_0, Ch.ro 0 (Sl aaX_1_1 aX_1.2.1 caX_1_1) aX_1.2.1, Ch.bx n0 b1 0 [(I aX_1.1), (Sl aaX_1_1 aX_1.2.1 caX_1_1), (I aX_1.2.2)] [] []] := H
               replace H : Hp S0 σ0 σ158 [Ch.ro 0 (Sl a57 r119.2 c58) r119.2] := H.sel' [5] rfl rfl
               refine st (v := (B (!r155))) (rv_not rfl) ?_
               refine st (v := (B (!r155))) (rv_move rfl) ?_
               rcases Bool.eq_false_or_eq_true (!r155) with hb159 | hb159
               ·replace h := bif_t hb159 h
                refine st_skip (congrArg some hb159) ?_
                refine st_skip (congrArg some hb159) ?_
                refine st_skip (congrArg some hb159) ?_
                refine st (v := (B true)) (rv_pick_t (congrArg B hb159) rfl) ?_
                refine w_end ?_
                obtain rfl := Option.some.inj h
                exact ⟨rfl, _, σ158, fr_join ⟨rfl, rfl, rfl, trivial⟩, rfl, H.sel' [0] rfl rfl⟩
               ·replace h := bif_f hb159 h
                refine st_g (v := (B r144.2)) (congrArg some hb159) (rv_move rfl) ?_
                refine st_g (v := (B r28.2)) (congrArg some hb159) (rv_move rfl) ?_
                refine st_g (v := (B (r144.2 != r28.2))) (congrArg some hb159) (rv_bneq Try.underlying4 rfl rfl) ?_
                refine st (v := (B (r144.2 != r28.2))) (rv_pick_f (congrArg B hb159) rfl) ?_
                refine w_end ?_
                obtain rfl := Option.some.inj h
                exact ⟨rfl, _, σ158, fr_join ⟨rfl, rfl, rfl, trivial⟩, rfl, H.sel' [0] rfl rfl⟩
              ·clear hj
               have h := h'
               clear h' H
               rintro e a w ⟨rfl, ρ, σ160, rfl, rfl, H⟩
               refine q_then ?_
               refine cd_cond o152 rfl (fun hb161 => ?_) (fun hb161 => ?_)
               ·replace h := bif_t hb161 h
                refine c_seq ?_
                refine rg ?_
                refine st (v := (B false)) (rv_assign rfl) ?_
                refine w_end ?_
                refine q_then ?_
                refine c_ret ?_
                refine q_then_r ?_
                obtain rfl := Option.some.inj h
                exact fin_ret (v := (B false)) (results_ok Try.results8 (res_tmp (v := (B false)) rfl res_nil) rfl) ⟨rfl, rfl⟩ (H.sel' [] rfl rfl)
               ·replace h := bif_f hb161 h
                refine c_skip ?_
                refine q_then ?_
                refine c_seq ?_
                refine rg ?_
                refine st (v := (I 1)) (rv_assign rfl) ?_
                refine w_end ?_
                refine q_then ?_
                refine c_seq ?_
                refine rg ?_
                refine st (v := (Sl a57 r119.2 c58)) (rv_move rfl) ?_
                refine st (v := (I 1)) (rv_move rfl) ?_
                obtain ⟨r162, hx163, h'⟩ := bind_some h
                clear h
                have h := h'; clear h'
                have hc164 := c_laws_heldItemS (aa_0 := a57) (ca_0 := c58) hx163
                refine st_call (cx_call hc164 (ent_f hc164.fn rfl) hn0 (show Hp S0 σ0 _ ([Ch.ro 0 (Sl a57 r119.2 c58) r119.2] ++ [Ch.ro 0 (Sl a57 r119.2 c58) r119.2]) from (H.sel' [0, 0] rfl rfl))) wn ?_
                rintro _ σ165 ⟨_, ⟨rfl, rfl⟩, H, -⟩
                replace H : Hp S0 σ0 σ165 [Ch.ro 0 (Sl a57 r119.2 c58) r119.2] := H
                refine st (v := (I r162)) (rv_assign rfl) ?_
                refine w_end ?_
                refine q_then ?_
                refine c_seq ?_
                refine c_seq ?_
                refine rg ?_
                refine st (v := (I r162)) (rv_move rfl) ?_
                refine st (v := (B (decide (r162 < 0)))) (rv_lss (a := r162) (b := 0) rfl rfl) ?_
                refine w_end ?_
                refine q_then ?_
                refine cd_cond (decide (r162 < 0)) rfl (fun hb166 => ?_) (fun hb166 => ?_)
                ·replace h := bif_t hb166 h
                 refine c_seq ?_
                 refine rg ?_
                 refine st (v := (B false)) (rv_assign rfl) ?_
                 refine w_end ?_
                 refine q_then ?_
                 refine c_ret ?_
                 refine q_then_r ?_
                 obtain rfl := Option.some.inj h
                 exact fin_ret (v := (B false)) (results_ok Try.results8 (res_tmp (v := (B false)) rfl res_nil) rfl) ⟨rfl, rfl⟩ (H.sel' [] rfl rfl)
                ·replace h := bif_f hb166 h
                 refine c_skip ?_
                 refine q_then ?_
                 refine c_seq ?_
                 refine c_seq ?_
                 refine rg ?_
                 refine st (v := (I r162)) (rv_move rfl) ?_
                 refine st (v := (I r119.1)) (rv_move rfl) ?_
                 refine st (v := (B (r162 != r119.1))) (rv_neq (a := r162) (b := r119.1) rfl rfl) ?_
                 refine w_end ?_
                 refine q_then ?_
                 refine cd_cond (r162 != r119.1) rfl (fun hb167 => ?_) (fun hb167 => ?_)
                 ·replace h := bif_t hb167 h
                  refine c_seq ?_
                  refine rg ?_
                  refine st (v := (B false)) (rv_assign rfl) ?_
                  refine w_end ?_
                  refine q_then ?_
                  refine c_ret ?_
                  refine q_then_r ?_
                  obtain rfl := Option.some.inj h
                  exact fin_ret (v := (B false)) (results_ok Try.results8 (res_tmp (v := (B false)) rfl res_nil) rfl) ⟨rfl, rfl⟩ (H.sel' [] rfl rfl)
                 ·replace h := bif_f hb167 h
                  refine c_skip ?_
                  refine q_then ?_
                  refine c_seq ?_
                  refine rg ?_
                  refine st (v := (B true)) (rv_assign rfl) ?_
                  refine w_end ?_
                  refine q_then ?_
                  refine c_ret ?_
                  obtain rfl := Option.some.inj h
                  exact fin_ret (v := (B true)) (results_ok Try.results8 (res_tmp (v := (B true)) rfl res_nil) rfl) ⟨rfl, rfl⟩ (H.sel' [] rfl rfl)

end Go.Vs
