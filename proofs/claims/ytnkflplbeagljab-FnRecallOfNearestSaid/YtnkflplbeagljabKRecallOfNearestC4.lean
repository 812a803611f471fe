/- The functions compute what their models say. -/
import Derived.Test.YtnkflplbeagljabKRecallOfNearestC3
set_option linter.unusedVariables false
set_option linter.unusedSimpArgs false
set_option maxRecDepth 20000
namespace Go.Vs
open Go Go.Proofs
attribute [local irreducible] Code.wp Code.wpIn wpList wpListIn wpQuiet Calls CallsIn

theorem c_impl_nearestBy__impl_nearestAmong_1 {list_0 : List (Int × (List Int) × Int)} {k_1 : Int} {dist_2_0 : Int} {dist_2_1 : List Int} {alist_0 : Option Addr} {clist_0 : Nat} {lodist_2_0 bdist_2_0 odist_2_0 : Nat} {predist_2_0 sufdist_2_0 : List Value} {adist_2_1 : Option Addr} {cdist_2_1 : Nat} {lodist_2_1 bdist_2_1 odist_2_1 : Nat} {predist_2_1 sufdist_2_1 : List Value} {r : (List (Int × Int))} (h : M.impl_nearestBy__impl_nearestAmong_1 list_0 k_1 dist_2_0 dist_2_1 = some r) :
    Cal2 Try.prog 81 [(Sl alist_0 list_0 clist_0), (I k_1), (.func (.func 82) #[] #[(pt bdist_2_0 odist_2_0), (pt bdist_2_1 odist_2_1)])] [Ch.ro 0 (Sl alist_0 list_0 clist_0) list_0, Ch.bx lodist_2_0 bdist_2_0 odist_2_0 [(I dist_2_0)] predist_2_0 sufdist_2_0, Ch.bx lodist_2_1 bdist_2_1 odist_2_1 [(Sl adist_2_1 dist_2_1 cdist_2_1)] predist_2_1 sufdist_2_1, Ch.ro 0 (Sl adist_2_1 dist_2_1 cdist_2_1) dist_2_1] (fun n0 v L => ∃ (az1 : Option Addr), ∃ (cz2 : Nat), v = (Sl az1 r cz2) ∧ L = [Ch.own 0 n0 (Sl az1 r cz2) r, Ch.bx lodist_2_0 bdist_2_0 odist_2_0 [(I dist_2_0)] predist_2_0 sufdist_2_0, Ch.bx lodist_2_1 bdist_2_1 odist_2_1 [(Sl adist_2_1 dist_2_1 cdist_2_1)] predist_2_1 sufdist_2_1]) := by
 refine cal2 (n := 27) Try.func81 rfl rfl rfl rfl ?_
 intro S0 σ0 n0 hn0 H
 unfold M.impl_nearestBy__impl_nearestAmong_1 at h
 refine c_seq ?_
 refine rg ?_
 refine st (v := (.slice none 0 0)) (rv_assign rfl) ?_
 refine w_end ?_
 refine q_then ?_
 refine c_seq ?_
 refine rg ?_
 refine st (v := (I k_1)) (rv_move rfl) ?_
 refine st (v := (.agg #[(I k_1), (.slice none 0 0)])) (rv_build (ps := [(0, (I k_1))]) Try.underlying103 ti103 (bp103 Try.underlying103) rfl (by kernel_rfl)) ?_
 refine st_ex (ex_alloc (cs := [(I 0), (.slice none 0 0)]) H hn0 ti103 rfl) wn ?_
 rintro _ σ2 ⟨b1, rfl, H, -⟩
 refine st_exS (ex_store_box (k := 0) (cs := [(I 0), (.slice none 0 0)]) (vs := [(I k_1), (.slice none 0 0)]) (cs' := [(I k_1), (.slice none 0 0)]) H (i := 0) rfl ti103 rfl rfl rfl rfl rfl (Nat.le_of_ble_eq_true rfl) (by simp [plain]) rfl) wn ?_
 rintro σ3 ⟨H, -⟩
 refine w_end ?_
 refine q_then ?_
 refine c_seq ?_
 refine c_seq ?_
 refine rg ?_
 refine st (v := (Sl alist_0 list_0 clist_0)) (rv_move rfl) ?_
 refine st (v := (I (list_0.length : Int))) (rv_len Try.underlying44 rfl) ?_
 refine st (v := (I 0)) (rv_move rfl) ?_
 refine w_end ?_
 refine q_then ?_
 obtain ⟨o4, hj, h'⟩ := bind_some h
 clear h
 refine c_cut (fun e a w => e = .normal ∧ ∃ (ρ : Nat → Value) (σ : St) (aj1 : Option Addr) (cj2 : Nat), a = fr 27 (updL ρ [(2, (.func (.func 82) #[] #[(pt bdist_2_0 odist_2_0), (pt bdist_2_1 odist_2_1)])), (7, (pt b1 0))]) ∧ w = σ.w ∧ Hp S0 σ0 σ [Ch.bx n0 b1 0 [(I o4.1), (Sl aj1 o4.2 cj2)] [] [], Ch.own 0 0 (Sl aj1 o4.2 cj2) o4.2, Ch.bx lodist_2_0 bdist_2_0 odist_2_0 [(I dist_2_0)] predist_2_0 sufdist_2_0, Ch.ro 0 (Sl adist_2_1 dist_2_1 cdist_2_1) dist_2_1, Ch.bx lodist_2_1 bdist_2_1 odist_2_1 [(Sl adist_2_1 dist_2_1 cdist_2_1)] predist_2_1 sufdist_2_1]) ?_ ?_
 ·clear h'
  rename _ = some o4 => h
  refine c_blk ?_
  replace H := H.nilOwn (Int × Int) 0 0
  refine wp_loopM _ h (fun s5 a w => ∃ (ρ : Nat → Value) (σ : St) (aj1 : Option Addr) (cj2 : Nat), a = fr 27 (updL ρ [(2, (.func (.func 82) #[] #[(pt bdist_2_0 odist_2_0), (pt bdist_2_1 odist_2_1)])), (7, (pt b1 0)), (12, (Sl alist_0 list_0 clist_0)), (13, (I (list_0.length : Int))), (14, (I s5.2))]) ∧ w = σ.w ∧ Hp S0 σ0 σ [Ch.bx n0 b1 0 [(I s5.1.1), (Sl aj1 s5.1.2 cj2)] [] [], Ch.own 0 0 (Sl aj1 s5.1.2 cj2) s5.1.2, Ch.bx lodist_2_0 bdist_2_0 odist_2_0 [(I dist_2_0)] predist_2_0 sufdist_2_0, Ch.ro 0 (Sl adist_2_1 dist_2_1 cdist_2_1) dist_2_1, Ch.bx lodist_2_1 bdist_2_1 odist_2_1 [(Sl adist_2_1 dist_2_1 cdist_2_1)] predist_2_1 sufdist_2_1, Ch.ro 0 (Sl alist_0 list_0 clist_0) list_0]) ⟨_, σ3, none, 0, fr_join ⟨rfl, rfl, rfl, rfl, rfl, trivial⟩, rfl, H.sel' [1, 0, 3, 5, 4, 2] rfl rfl⟩ ?_
  clear h H
  rintro s5 a w o ⟨ρ, σ6, a7, c8, rfl, rfl, H⟩ h hres
  refine c_seq ?_
  refine rg ?_
  refine st (v := (B (decide (s5.2 < (list_0.length : Int))))) (rv_lss (a := s5.2) (b := (list_0.length : Int)) rfl rfl) ?_
  refine w_end ?_
  refine q_then ?_
  refine c_seq ?_
  refine cd_cond (decide (s5.2 < (list_0.length : Int))) rfl (fun hb9 => ?_) (fun hb9 => ?_)
  ·replace h := bif_t hb9 h
   refine c_skip ?_
   refine q_then ?_
   refine c_seq ?_
   refine c_blk ?_
   refine c_seq ?_
   refine rg ?_
   obtain ⟨x10, hx11, h'⟩ := bind_some h
   clear h
   have h := h'; clear h'
   obtain ⟨b13, o14, hi12, -⟩ := (H.ro 5 rfl).ix hx11
   refine st (v := (pt b13 o14)) (rv_ix Try.underlying44 ti73 rfl rfl hi12) ?_
   obtain ⟨_, ⟨_, _, rfl, rfl, ⟨_, _, rfl, ⟨_, rfl, hR19⟩, rfl⟩⟩, hl15, hc16⟩ := ((H.ro 5 rfl).at hx11 hi12).cells
   obtain ⟨a17, c18, rfl⟩ := hR19.isSl
   replace H := H.add (d := Ch.ro 0 (Sl a17 x10.2.1 c18) x10.2.1) hR19 (fun _ h => h)
   clear hR19
   refine st (v := (.agg #[(I x10.1), (Sl a17 x10.2.1 c18), (I x10.2.2)])) (rv_load Try.underlying73 rfl ti73 rfl hl15 hc16) ?_
   refine st_ex (ex_alloc (cs := [(I 0), (.slice none 0 0), (I 0)]) H hn0 ti73 rfl) wn ?_
   rintro _ σ21 ⟨b20, rfl, H, -⟩
   refine st_exS (ex_store_box (k := 0) (cs := [(I 0), (.slice none 0 0), (I 0)]) (vs := [(I x10.1), (Sl a17 x10.2.1 c18), (I x10.2.2)]) (cs' := [(I x10.1), (Sl a17 x10.2.1 c18), (I x10.2.2)]) H (i := 0) rfl ti73 rfl rfl rfl rfl rfl (Nat.le_of_ble_eq_true rfl) (by simp [plain]) rfl) wn ?_
   rintro σ22 ⟨H, -⟩
   refine w_end ?_
   refine q_then ?_
   have hc23 := H.cell (u := (I x10.1)) (o' := 0) 0 0 rfl rfl rfl
   have hc24 := H.cells 0 rfl
   obtain ⟨r25, hx26, h'⟩ := bind_some h
   clear h
   have h := h'; clear h'
   have hc27 := c_impl_nearestAmong_1__p3__p24 (ax_0_1 := a17) (cx_0_1 := c18) (lop_1 := lodist_2_0) (bp_1 := bdist_2_0) (op_1 := odist_2_0) (prep_1 := predist_2_0) (sufp_1 := sufdist_2_0) (lop_2 := lodist_2_1) (bp_2 := bdist_2_1) (op_2 := odist_2_1) (prep_2 := predist_2_1) (sufp_2 := sufdist_2_1) (ap_2 := adist_2_1) (cp_2 := cdist_2_1) hx26
   have Hs := H
   refine rg2 (σ := σ22) (Nm := Unit) 5 [4] [[false], [true]] [[(0, 0), (1, 1)], [(0, 0), (1, 1)], [(0, 0)], [(0, 0)], [(0, 1)]] 1 [fun _ => fun σm => Hp S0 σ0 σm [Ch.bx n0 b20 0 [(I x10.1), (Sl a17 x10.2.1 c18), (I x10.2.2)] [] [], Ch.ro 0 (Sl a17 x10.2.1 c18) x10.2.1, Ch.bx n0 b1 0 [(I s5.1.1), (Sl a7 s5.1.2 c8)] [] [], Ch.own 0 0 (Sl a7 s5.1.2 c8) s5.1.2, Ch.bx lodist_2_0 bdist_2_0 odist_2_0 [(I dist_2_0)] predist_2_0 sufdist_2_0, Ch.ro 0 (Sl adist_2_1 dist_2_1 cdist_2_1) dist_2_1, Ch.bx lodist_2_1 bdist_2_1 odist_2_1 [(Sl adist_2_1 dist_2_1 cdist_2_1)] predist_2_1 sufdist_2_1, Ch.ro 0 (Sl alist_0 list_0 clist_0) list_0] ∧ Md (cov []) σ22 σm, fun _ => fun σm => Hp S0 σ0 σm [Ch.bx lodist_2_0 bdist_2_0 odist_2_0 [(I dist_2_0)] predist_2_0 sufdist_2_0, Ch.bx lodist_2_1 bdist_2_1 odist_2_1 [(Sl adist_2_1 dist_2_1 cdist_2_1)] predist_2_1 sufdist_2_1, Ch.bx n0 b20 0 [(I x10.1), (Sl a17 x10.2.1 c18), (I x10.2.2)] [] [], Ch.ro 0 (Sl a17 x10.2.1 c18) x10.2.1, Ch.bx n0 b1 0 [(I s5.1.1), (Sl a7 s5.1.2 c8)] [] [], Ch.own 0 0 (Sl a7 s5.1.2 c8) s5.1.2, Ch.ro 0 (Sl adist_2_1 dist_2_1 cdist_2_1) dist_2_1, Ch.ro 0 (Sl alist_0 list_0 clist_0) list_0] ∧ Md (fun i => (cov []) i ∨ (cov [Ch.ro 0 (Sl a17 x10.2.1 c18) x10.2.1, Ch.bx lodist_2_0 bdist_2_0 odist_2_0 [(I dist_2_0)] predist_2_0 sufdist_2_0, Ch.bx lodist_2_1 bdist_2_1 odist_2_1 [(Sl adist_2_1 dist_2_1 cdist_2_1)] predist_2_1 sufdist_2_1, Ch.ro 0 (Sl adist_2_1 dist_2_1 cdist_2_1) dist_2_1]) i) σ22 σm] [fun _ => (pt b20 0), fun _ => (I x10.1), fun _ => (.func (.func 82) #[] #[(pt bdist_2_0 odist_2_0), (pt bdist_2_1 odist_2_1)]), fun _ => (.agg #[(I x10.1), (Sl a17 x10.2.1 c18), (I x10.2.2)]), fun _ => (I r25)] () (by kernel_rfl) (by kernel_rfl) ?_ ?_ ?_
   ·intro σm m0
    exact ⟨H.grow (m0.mono fun _ h => h.elim), m0⟩
   ·refine ac rfl (by
      intro k _nm ρ σm hJ hoff hdep
      have e9 := look_off (N := 27) (hoff 9 rfl) rfl
      exact dp_v (v := (pt b20 0)) wn (rv_fieldAddr (off := 0) (ft := 3) Try.underlying73 rfl ti3 rfl e9) rfl hJ) ?_
    refine all_cons (by
      refine ⟨?_, ?_⟩
      ·intro _nm ρ σm hJ hoff hdep
       have e18 := hdep 0 rfl rfl 18 rfl
       obtain ⟨H, m⟩ := id hJ
       have hc23 := H.cell (u := (I x10.1)) (o' := 0) 0 0 rfl rfl rfl
       exact dp_v (v := (I x10.1)) wn (rv_load1 Try.underlying3 rfl e18 hc23) rfl hJ
      refine ⟨?_, ?_⟩
      ·intro _nm ρ σm hJ hoff hdep
       have e18 := hdep 0 rfl rfl 18 rfl
       obtain ⟨H, m⟩ := id hJ
       have hc23 := H.cell (u := (I x10.1)) (o' := 0) 2 0 rfl rfl rfl
       exact dp_v (v := (I x10.1)) wn (rv_load1 Try.underlying3 rfl e18 hc23) rfl hJ
      trivial) ?_
    refine ac rfl (by
      intro k _nm ρ σm hJ hoff hdep
      have e2 := look_off (N := 27) (hoff 2 rfl) rfl
      exact dp_v (v := (.func (.func 82) #[] #[(pt bdist_2_0 odist_2_0), (pt bdist_2_1 odist_2_1)])) wn (rv_move e2) rfl hJ) ?_
    refine all_cons (by
      refine ⟨?_, ?_⟩
      ·intro _nm ρ σm hJ hoff hdep
       have e9 := look_off (N := 27) (hoff 9 rfl) rfl
       obtain ⟨H, m⟩ := id hJ
       have hc24 := H.cells 0 rfl
       exact dp_v (v := (.agg #[(I x10.1), (Sl a17 x10.2.1 c18), (I x10.2.2)])) wn (rv_load (cs := [(I x10.1), (Sl a17 x10.2.1 c18), (I x10.2.2)]) Try.underlying73 rfl ti73 e9 rfl hc24) rfl hJ
      trivial) ?_
    refine all_cons (by
      refine ⟨?_, ?_⟩
      ·intro _nm ρ σm hJ hoff hdep
       have e21 : look 27 ρ 21 = (.agg #[(I x10.1), (Sl a17 x10.2.1 c18), (I x10.2.2)]) := hdep 3 rfl rfl 21 rfl
       have e20 := hdep 2 rfl rfl 20 rfl
       obtain ⟨H, m⟩ := id hJ
       refine dp_cx wn (cx_call hc27 (ent_v (cap := [(pt bdist_2_0 odist_2_0), (pt bdist_2_1 odist_2_1)]) hc27.fn e20 (by show [look 27 ρ 21] ++ [(pt bdist_2_0 odist_2_0), (pt bdist_2_1 odist_2_1)] = _; rw [e21]; rfl)) hn0 (show Hp S0 σ0 _ ([Ch.ro 0 (Sl a17 x10.2.1 c18) x10.2.1, Ch.bx lodist_2_0 bdist_2_0 odist_2_0 [(I dist_2_0)] predist_2_0 sufdist_2_0, Ch.bx lodist_2_1 bdist_2_1 odist_2_1 [(Sl adist_2_1 dist_2_1 cdist_2_1)] predist_2_1 sufdist_2_1, Ch.ro 0 (Sl adist_2_1 dist_2_1 cdist_2_1) dist_2_1] ++ [Ch.bx n0 b20 0 [(I x10.1), (Sl a17 x10.2.1 c18), (I x10.2.2)] [] [], Ch.ro 0 (Sl a17 x10.2.1 c18) x10.2.1, Ch.bx n0 b1 0 [(I s5.1.1), (Sl a7 s5.1.2 c8)] [] [], Ch.own 0 0 (Sl a7 s5.1.2 c8) s5.1.2, Ch.ro 0 (Sl adist_2_1 dist_2_1 cdist_2_1) dist_2_1, Ch.ro 0 (Sl alist_0 list_0 clist_0) list_0]) from (H.sel' [1, 4, 6, 5, 0, 1, 2, 3, 5, 7] rfl rfl))) ?_
       rintro _ σq ⟨_, ⟨rfl, rfl⟩, H2, m2⟩
       exact ⟨_, (), rfl, rfl, ⟨H2.sel' [0, 1, 2, 3, 4, 5, 6, 7] rfl rfl, m.comp m2⟩, stab [0, 1, 2, 3] (by kernel_rfl) ⟨rfl, rfl, rfl, rfl, trivial⟩⟩
      trivial) ?_
    exact all_nil
   ·intro _nm ρ σ28 hJ hoff hrel
    have e2 := look_off (N := 27) (hoff 2 rfl) rfl
    have e7 := look_off (N := 27) (hoff 7 rfl) rfl
    have e12 := look_off (N := 27) (hoff 12 rfl) rfl
    have e13 := look_off (N := 27) (hoff 13 rfl) rfl
    have e14 := look_off (N := 27) (hoff 14 rfl) rfl
    have e19 := hrel 1 rfl 19 rfl
    have e22 := hrel 4 rfl 22 rfl
    obtain ⟨H, -⟩ := (show Hp S0 σ0 σ28 [Ch.bx lodist_2_0 bdist_2_0 odist_2_0 [(I dist_2_0)] predist_2_0 sufdist_2_0, Ch.bx lodist_2_1 bdist_2_1 odist_2_1 [(Sl adist_2_1 dist_2_1 cdist_2_1)] predist_2_1 sufdist_2_1, Ch.bx n0 b20 0 [(I x10.1), (Sl a17 x10.2.1 c18), (I x10.2.2)] [] [], Ch.ro 0 (Sl a17 x10.2.1 c18) x10.2.1, Ch.bx n0 b1 0 [(I s5.1.1), (Sl a7 s5.1.2 c8)] [] [], Ch.own 0 0 (Sl a7 s5.1.2 c8) s5.1.2, Ch.ro 0 (Sl adist_2_1 dist_2_1 cdist_2_1) dist_2_1, Ch.ro 0 (Sl alist_0 list_0 clist_0) list_0] ∧ Md (fun i => (cov []) i ∨ (cov [Ch.ro 0 (Sl a17 x10.2.1 c18) x10.2.1, Ch.bx lodist_2_0 bdist_2_0 odist_2_0 [(I dist_2_0)] predist_2_0 sufdist_2_0, Ch.bx lodist_2_1 bdist_2_1 odist_2_1 [(Sl adist_2_1 dist_2_1 cdist_2_1)] predist_2_1 sufdist_2_1, Ch.ro 0 (Sl adist_2_1 dist_2_1 cdist_2_1) dist_2_1]) i) σ22 σ28 from hJ)
    clear hJ Hs
    rw [fr_lookL (L := [(2, (.func (.func 82) #[] #[(pt bdist_2_0 odist_2_0), (pt bdist_2_1 odist_2_1)])), (7, (pt b1 0)), (12, (Sl alist_0 list_0 clist_0)), (13, (I (list_0.length : Int))), (14, (I s5.2)), (19, (I x10.1)), (22, (I r25))]) ⟨e2, e7, e12, e13, e14, e19, e22, trivial⟩]
    clear hoff hrel e2 e7 e12 e13 e14 e19 e22
    refine st (v := (.agg #[(I x10.1), (I r25)])) (rv_build (ps := [(0, (I x10.1)), (1, (I r25))]) Try.underlying40 ti40 (bp40 Try.underlying40) rfl (by kernel_rfl)) ?_
    obtain ⟨r29, hx30, h'⟩ := bind_some h
    clear h
    have h := h'; clear h'
    have hc31 := c_impl_nearestHits_offer (lon_0 := n0) (bn_0 := b1) (on_0 := 0) (pren_0 := []) (sufn_0 := []) (an_0_1 := a7) (cn_0_1 := c8) hx30
    refine st_call (cx_call hc31 (ent_f hc31.fn rfl) hn0 (show Hp S0 σ0 _ ([Ch.bx n0 b1 0 [(I s5.1.1), (Sl a7 s5.1.2 c8)] [] [], Ch.own 0 0 (Sl a7 s5.1.2 c8) s5.1.2] ++ [Ch.bx lodist_2_0 bdist_2_0 odist_2_0 [(I dist_2_0)] predist_2_0 sufdist_2_0, Ch.bx lodist_2_1 bdist_2_1 odist_2_1 [(Sl adist_2_1 dist_2_1 cdist_2_1)] predist_2_1 sufdist_2_1, Ch.bx n0 b20 0 [(I x10.1), (Sl a17 x10.2.1 c18), (I x10.2.2)] [] [], Ch.ro 0 (Sl a17 x10.2.1 c18) x10.2.1, Ch.ro 0 (Sl adist_2_1 dist_2_1 cdist_2_1) dist_2_1, Ch.ro 0 (Sl alist_0 list_0 clist_0) list_0]) from (H.sel' [4, 5, 0, 1, 2, 3, 6, 7] rfl rfl))) wn ?_
    rintro _ σ34 ⟨_, ⟨a32, c33, rfl, rfl⟩, H, -⟩
    replace H : Hp S0 σ0 σ34 [Ch.bx n0 b1 0 [(I r29.1), (Sl a32 r29.2 c33)] [] [], Ch.own 0 0 (Sl a32 r29.2 c33) r29.2, Ch.bx lodist_2_0 bdist_2_0 odist_2_0 [(I dist_2_0)] predist_2_0 sufdist_2_0, Ch.bx lodist_2_1 bdist_2_1 odist_2_1 [(Sl adist_2_1 dist_2_1 cdist_2_1)] predist_2_1 sufdist_2_1, Ch.bx n0 b20 0 [(I x10.1), (Sl a17 x10.2.1 c18), (I x10.2.2)] [] [], Ch.ro 0 (Sl a17 x10.2.1 c18) x10.2.1, Ch.ro 0 (Sl adist_2_1 dist_2_1 cdist_2_1) dist_2_1, Ch.ro 0 (Sl alist_0 list_0 clist_0) list_0] := H
    replace H : Hp S0 σ0 σ34 [Ch.bx n0 b1 0 [(I r29.1), (Sl a32 r29.2 c33)] [] [], Ch.own 0 0 (Sl a32 r29.2 c33) r29.2, Ch.bx lodist_2_0 bdist_2_0 odist_2_0 [(I dist_2_0)] predist_2_0 sufdist_2_0, Ch.bx lodist_2_1 bdist_2_1 odist_2_1 [(Sl adist_2_1 dist_2_1 cdist_2_1)] predist_2_1 sufdist_2_1, Ch.ro 0 (Sl adist_2_1 dist_2_1 cdist_2_1) dist_2_1, Ch.ro 0 (Sl alist_0 list_0 clist_0) list_0] := H.sel' [0, 1, 2, 3, 6, 7] rfl rfl
    refine w_end ?_
    refine q_blk ?_
    refine q_then ?_
    refine rg ?_
    refine st (v := (I (w64 (s5.2 + 1)))) (rv_add (a := s5.2) (b := 1) rfl rfl) ?_
    refine st (v := (I (w64 (s5.2 + 1)))) (rv_move rfl) ?_
    refine w_end ?_
    refine q_then ?_
    obtain rfl := Option.some.inj h
    exact ⟨_, rfl, _, σ34, a32, c33, fr_join ⟨rfl, rfl, rfl, rfl, rfl, trivial⟩, rfl, H.sel' [0, 1, 2, 4, 3, 5] rfl rfl⟩
  ·replace h := bif_f hb9 h
   refine c_exit ?_
   refine q_then_x ?_
   refine q_then_x ?_
   refine q_blk_hit ?_
   obtain rfl := Option.some.inj h
   obtain rfl := hres _ rfl
   exact ⟨rfl, _, σ6, a7, c8, fr_join ⟨rfl, rfl, trivial⟩, rfl, H.sel' [0, 1, 2, 3, 4] rfl rfl⟩
 ·clear hj
  have h := h'
  clear h' H
  rintro e a w ⟨rfl, ρ, σ35, a36, c37, rfl, rfl, H⟩
  refine q_then ?_
  refine c_seq ?_
  refine rg ?_
  obtain ⟨σ38, hw39, H, -⟩ := H.pub 1 rfl (Nat.le_refl _)
  rw [← hw39]; clear hw39
  obtain ⟨r40, hx41, h'⟩ := bind_some h
  clear h
  have h := h'; clear h'
  have hc42 := c_impl_nearestHits_inOrder (lon_0 := n0) (bn_0 := b1) (on_0 := 0) (pren_0 := []) (sufn_0 := []) (an_0_1 := a36) (cn_0_1 := c37) hx41
  refine st_call (cx_call hc42 (ent_f hc42.fn rfl) hn0 (show Hp S0 σ0 _ ([Ch.bx n0 b1 0 [(I o4.1), (Sl a36 o4.2 c37)] [] [], Ch.ro 0 (Sl a36 o4.2 c37) o4.2] ++ [Ch.ro 0 (Sl a36 o4.2 c37) o4.2, Ch.bx lodist_2_0 bdist_2_0 odist_2_0 [(I dist_2_0)] predist_2_0 sufdist_2_0, Ch.ro 0 (Sl adist_2_1 dist_2_1 cdist_2_1) dist_2_1, Ch.bx lodist_2_1 bdist_2_1 odist_2_1 [(Sl adist_2_1 dist_2_1 cdist_2_1)] predist_2_1 sufdist_2_1]) from (H.sel' [1, 0, 0, 2, 3, 4] rfl rfl))) wn ?_
  rintro _ σ45 ⟨_, ⟨a43, c44, rfl, rfl⟩, H, -⟩
  replace H : Hp S0 σ0 σ45 [Ch.own 0 n0 (Sl a43 r40 c44) r40, Ch.bx n0 b1 0 [(I o4.1), (Sl a36 o4.2 c37)] [] [], Ch.ro 0 (Sl a36 o4.2 c37) o4.2, Ch.bx lodist_2_0 bdist_2_0 odist_2_0 [(I dist_2_0)] predist_2_0 sufdist_2_0, Ch.ro 0 (Sl adist_2_1 dist_2_1 cdist_2_1) dist_2_1, Ch.bx lodist_2_1 bdist_2_1 odist_2_1 [(Sl adist_2_1 dist_2_1 cdist_2_1)] predist_2_1 sufdist_2_1] := H
  refine st (v := (Sl a43 r40 c44)) (rv_assign rfl) ?_
  refine w_end ?_
  refine q_then ?_
  refine c_ret ?_
  obtain rfl := Option.some.inj h
  exact fin_ret (v := (Sl a43 r40 c44)) (results_ok Try.results81 (res_tmp (v := (Sl a43 r40 c44)) rfl res_nil) rfl) ⟨a43, c44, rfl, rfl⟩ (H.sel' [0, 3, 5] rfl rfl)

theorem c_impl_nearestAmong {list_0 : List (Int × (List Int) × Int)} {kind_1 : Int} {at_2 : List Int} {k_3 : Int} {alist_0 : Option Addr} {clist_0 : Nat} {aat_2 : Option Addr} {cat_2 : Nat} {r : (List (Int × Int))} (h : M.impl_nearestAmong list_0 kind_1 at_2 k_3 = some r) :
    Cal2 Try.prog 61 [(Sl alist_0 list_0 clist_0), (I kind_1), (Sl aat_2 at_2 cat_2), (I k_3)] [Ch.ro 0 (Sl alist_0 list_0 clist_0) list_0, Ch.ro 0 (Sl aat_2 at_2 cat_2) at_2] (fun n0 v L => ∃ (az1 : Option Addr), ∃ (cz2 : Nat), v = (Sl az1 r cz2) ∧ L = [Ch.own 0 n0 (Sl az1 r cz2) r]) := by
 refine cal2 (n := 13) Try.func61 rfl rfl rfl rfl ?_
 intro S0 σ0 n0 hn0 H
 unfold M.impl_nearestAmong at h
 refine c_seq ?_
 refine rg ?_
 refine st_ex (ex_box (cs := [(I kind_1)]) H hn0 rfl rfl) wn ?_
 rintro _ σ2 ⟨b1, rfl, H, -⟩
 refine st_ex (ex_box (cs := [(Sl aat_2 at_2 cat_2)]) H hn0 rfl rfl) wn ?_
 rintro _ σ4 ⟨b3, rfl, H, -⟩
 refine st (v := (.slice none 0 0)) (rv_assign rfl) ?_
 refine w_end ?_
 refine q_then ?_
 refine c_seq ?_
 refine rg ?_
 refine st (v := (Sl alist_0 list_0 clist_0)) (rv_move rfl) ?_
 refine st (v := (I k_3)) (rv_move rfl) ?_
 refine st (v := (.func (.func 82) #[] #[(pt b1 0), (pt b3 0)])) (rv_makeFunc (vs := [(pt b1 0), (pt b3 0)]) rfl) ?_
 obtain ⟨r5, hx6, h'⟩ := bind_some h
 clear h
 have h := h'; clear h'
 have hc7 := c_impl_nearestBy__impl_nearestAmong_1 (alist_0 := alist_0) (clist_0 := clist_0) (lodist_2_0 := n0) (bdist_2_0 := b1) (odist_2_0 := 0) (predist_2_0 := []) (sufdist_2_0 := []) (lodist_2_1 := n0) (bdist_2_1 := b3) (odist_2_1 := 0) (predist_2_1 := []) (sufdist_2_1 := []) (adist_2_1 := aat_2) (cdist_2_1 := cat_2) hx6
 refine st_call (cx_call hc7 (ent_f hc7.fn rfl) hn0 (show Hp S0 σ0 _ ([Ch.ro 0 (Sl alist_0 list_0 clist_0) list_0, Ch.bx n0 b1 0 [(I kind_1)] [] [], Ch.bx n0 b3 0 [(Sl aat_2 at_2 cat_2)] [] [], Ch.ro 0 (Sl aat_2 at_2 cat_2) at_2] ++ [Ch.ro 0 (Sl alist_0 list_0 clist_0) list_0, Ch.ro 0 (Sl aat_2 at_2 cat_2) at_2]) from (H.sel' [2, 1, 0, 3, 2, 3] rfl rfl))) wn ?_
 rintro _ σ10 ⟨_, ⟨a8, c9, rfl, rfl⟩, H, -⟩
 replace H : Hp S0 σ0 σ10 [Ch.own 0 n0 (Sl a8 r5 c9) r5, Ch.bx n0 b1 0 [(I kind_1)] [] [], Ch.bx n0 b3 0 [(Sl aat_2 at_2 cat_2)] [] [], Ch.ro 0 (Sl alist_0 list_0 clist_0) list_0, Ch.ro 0 (Sl aat_2 at_2 cat_2) at_2] := H
 refine st (v := (Sl a8 r5 c9)) (rv_assign rfl) ?_
 refine w_end ?_
 refine q_then ?_
 refine c_ret ?_
 obtain rfl := Option.some.inj h
 exact fin_ret (v := (Sl a8 r5 c9)) (results_ok Try.results61 (res_tmp (v := (Sl a8 r5 c9)) rfl res_nil) rfl) ⟨a8, c9, rfl, rfl⟩ (H.sel' [0] rfl rfl)

theorem c_impl_Nearest {list_0 : List (Int × (List Int) × Int)} {kind_1 : Int} {at_2 : List Int} {k_3 : Int} {alist_0 : Option Addr} {clist_0 : Nat} {aat_2 : Option Addr} {cat_2 : Nat} {r : (List (Int × Int))} (h : M.impl_Nearest list_0 kind_1 at_2 k_3 = some r) :
    Cal2 Try.prog 31 [(Sl alist_0 list_0 clist_0), (I kind_1), (Sl aat_2 at_2 cat_2), (I k_3)] [Ch.ro 0 (Sl alist_0 list_0 clist_0) list_0, Ch.ro 0 (Sl aat_2 at_2 cat_2) at_2] (fun n0 v L => ∃ (az1 : Option Addr), ∃ (cz2 : Nat), v = (Sl az1 r cz2) ∧ L = [Ch.own 0 n0 (Sl az1 r cz2) r]) := by
 refine cal2 (n := 20) Try.func31 rfl rfl rfl rfl ?_
 intro S0 σ0 n0 hn0 H
 unfold M.impl_Nearest at h
 refine c_seq ?_
 refine rg ?_
 refine st (v := (.slice none 0 0)) (rv_assign rfl) ?_
 refine w_end ?_
 refine q_then ?_
 refine c_seq ?_
 refine c_seq ?_
 refine rg ?_
 refine st (v := (Sl alist_0 list_0 clist_0)) (rv_move rfl) ?_
 refine st (v := (I kind_1)) (rv_move rfl) ?_
 refine st (v := (Sl aat_2 at_2 cat_2)) (rv_move rfl) ?_
 refine st (v := (I k_3)) (rv_move rfl) ?_
 obtain ⟨r1, hx2, h'⟩ := bind_some h
 clear h
 have h := h'; clear h'
 have hc3 := c_impl_validSearch (alist_0 := alist_0) (clist_0 := clist_0) (aat_2 := aat_2) (cat_2 := cat_2) hx2
 refine st_call (cx_call hc3 (ent_f hc3.fn rfl) hn0 (show Hp S0 σ0 _ ([Ch.ro 0 (Sl alist_0 list_0 clist_0) list_0, Ch.ro 0 (Sl aat_2 at_2 cat_2) at_2] ++ [Ch.ro 0 (Sl alist_0 list_0 clist_0) list_0, Ch.ro 0 (Sl aat_2 at_2 cat_2) at_2]) from (H.sel' [0, 1, 0, 1] rfl rfl))) wn ?_
 rintro _ σ4 ⟨_, ⟨rfl, rfl⟩, H, -⟩
 replace H : Hp S0 σ0 σ4 [Ch.ro 0 (Sl alist_0 list_0 clist_0) list_0, Ch.ro 0 (Sl aat_2 at_2 cat_2) at_2] := H
 refine st (v := (B (!r1))) (rv_not rfl) ?_
 refine w_end ?_
 refine q_then ?_
 refine cd_cond (!r1) rfl (fun hb5 => ?_) (fun hb5 => ?_)
 ·replace h := bif_t hb5 h
  refine c_seq ?_
  refine rg ?_
  refine st (v := (.slice none 0 0)) (rv_assign rfl) ?_
  refine w_end ?_
  refine q_then ?_
  refine c_ret ?_
  refine q_then_r ?_
  replace H := H.nilOwn (Int × Int) 0 n0
  obtain rfl := Option.some.inj h
  exact fin_ret (v := (.slice none 0 0)) (results_ok Try.results31 (res_tmp (v := (.slice none 0 0)) rfl res_nil) rfl) ⟨none, 0, rfl, rfl⟩ (H.sel' [0] rfl rfl)
 ·replace h := bif_f hb5 h
  refine c_skip ?_
  refine q_then ?_
  refine c_seq ?_
  refine rg ?_
  refine st (v := (Sl alist_0 list_0 clist_0)) (rv_move rfl) ?_
  refine st (v := (I kind_1)) (rv_move rfl) ?_
  refine st (v := (Sl aat_2 at_2 cat_2)) (rv_move rfl) ?_
  refine st (v := (I k_3)) (rv_move rfl) ?_
  obtain ⟨r6, hx7, h'⟩ := bind_some h
  clear h
  have h := h'; clear h'
  have hc8 := c_impl_nearestAmong (alist_0 := alist_0) (clist_0 := clist_0) (aat_2 := aat_2) (cat_2 := cat_2) hx7
  refine st_call (cx_call hc8 (ent_f hc8.fn rfl) hn0 (show Hp S0 σ0 _ ([Ch.ro 0 (Sl alist_0 list_0 clist_0) list_0, Ch.ro 0 (Sl aat_2 at_2 cat_2) at_2] ++ [Ch.ro 0 (Sl alist_0 list_0 clist_0) list_0, Ch.ro 0 (Sl aat_2 at_2 cat_2) at_2]) from (H.sel' [0, 1, 0, 1] rfl rfl))) wn ?_
  rintro _ σ11 ⟨_, ⟨a9, c10, rfl, rfl⟩, H, -⟩
  replace H : Hp S0 σ0 σ11 [Ch.own 0 n0 (Sl a9 r6 c10) r6, Ch.ro 0 (Sl alist_0 list_0 clist_0) list_0, Ch.ro 0 (Sl aat_2 at_2 cat_2) at_2] := H
  refine st (v := (Sl a9 r6 c10)) (rv_assign rfl) ?_
  refine w_end ?_
  refine q_then ?_
  refine c_ret ?_
  obtain rfl := Option.some.inj h
  exact fin_ret (v := (Sl a9 r6 c10)) (results_ok Try.results31 (res_tmp (v := (Sl a9 r6 c10)) rfl res_nil) rfl) ⟨a9, c10, rfl, rfl⟩ (H.sel' [0] rfl rfl)

theorem c_spec_validKind {kind_0 : Int}  {r : Bool} (h : M.spec_validKind kind_0 = some r) :
    Cal2 Try.prog 85 [(I kind_0)] [] (fun n0 v L => v = (B r) ∧ L = []) := by
 refine cal2 (n := 5) Try.func85 rfl rfl rfl rfl ?_
 intro S0 σ0 n0 hn0 H
 unfold M.spec_validKind at h
 refine c_seq ?_
 refine rg ?_
 refine st (v := (B false)) (rv_assign rfl) ?_
 refine w_end ?_
 refine q_then ?_
 refine c_seq ?_
 refine rg ?_
 refine st (v := (I kind_0)) (rv_move rfl) ?_
 obtain ⟨r1, hx2, h'⟩ := bind_some h
 clear h
 have h := h'; clear h'
 have hc3 := c_spec_inRange hx2
 refine st_call (cx_call hc3 (ent_f hc3.fn rfl) hn0 (show Hp S0 σ0 _ ([] ++ []) from (H.sel' [] rfl rfl))) wn ?_
 rintro _ σ4 ⟨_, ⟨rfl, rfl⟩, H, -⟩
 replace H : Hp S0 σ0 σ4 [] := H
 refine st (v := (B r1)) (rv_assign rfl) ?_
 refine w_end ?_
 refine q_then ?_
 refine c_ret ?_
 obtain rfl := Option.some.inj h
 exact fin_ret (v := (B r1)) (results_ok Try.results85 (res_tmp (v := (B r1)) rfl res_nil) rfl) ⟨rfl, rfl⟩ (H.sel' [] rfl rfl)

theorem c_spec_validQuery {list_0 : List (Int × (List Int) × Int)} {kind_1 : Int} {at_2 : List Int} {alist_0 : Option Addr} {clist_0 : Nat} {aat_2 : Option Addr} {cat_2 : Nat} {r : Bool} (h : M.spec_validQuery list_0 kind_1 at_2 = some r) :
    Cal2 Try.prog 62 [(Sl alist_0 list_0 clist_0), (I kind_1), (Sl aat_2 at_2 cat_2)] [Ch.ro 0 (Sl alist_0 list_0 clist_0) list_0, Ch.ro 0 (Sl aat_2 at_2 cat_2) at_2] (fun n0 v L => v = (B r) ∧ L = []) := by
 refine cal2 (n := 17) Try.func62 rfl rfl rfl rfl ?_
 intro S0 σ0 n0 hn0 H
 unfold M.spec_validQuery at h
 refine c_seq ?_
 refine rg ?_
 refine st (v := (B false)) (rv_assign rfl) ?_
 refine w_end ?_
 refine q_then ?_
 refine c_seq ?_
 refine rg ?_
 refine st (v := (Sl alist_0 list_0 clist_0)) (rv_move rfl) ?_
 obtain ⟨r1, hx2, h'⟩ := bind_some h
 clear h
 have h := h'; clear h'
 have hc3 := c_spec_validStore (alist_0 := alist_0) (clist_0 := clist_0) hx2
 refine st_call (cx_call hc3 (ent_f hc3.fn rfl) hn0 (show Hp S0 σ0 _ ([Ch.ro 0 (Sl alist_0 list_0 clist_0) list_0] ++ [Ch.ro 0 (Sl alist_0 list_0 clist_0) list_0, Ch.ro 0 (Sl aat_2 at_2 cat_2) at_2]) from (H.sel' [0, 0, 1] rfl rfl))) wn ?_
 rintro _ σ4 ⟨_, ⟨rfl, rfl⟩, H, -⟩
 replace H : Hp S0 σ0 σ4 [Ch.ro 0 (Sl alist_0 list_0 clist_0) list_0, Ch.ro 0 (Sl aat_2 at_2 cat_2) at_2] := H
 refine st (v := (B r1)) (rv_move rfl) ?_
 rcases Bool.eq_false_or_eq_true r1 with hb5 | hb5
 ·replace h := bif_t hb5 h
  refine st_g (v := (I kind_1)) (congrArg some hb5) (rv_move rfl) ?_
  obtain ⟨r6, hx7, h'⟩ := bind_some h
  clear h
  have h := h'; clear h'
  have hc8 := c_spec_validKind hx7
  refine st_call (cx_call hc8 (ent_f hc8.fn rfl) hn0 (show Hp S0 σ0 _ ([] ++ [Ch.ro 0 (Sl alist_0 list_0 clist_0) list_0, Ch.ro 0 (Sl aat_2 at_2 cat_2) at_2]) from (H.sel' [0, 1] rfl rfl))) (wanted_yes rfl (by exact (congrArg some hb5))) ?_
  rintro _ σ9 ⟨_, ⟨rfl, rfl⟩, H, -⟩
  replace H : Hp S0 σ0 σ9 [Ch.ro 0 (Sl alist_0 list_0 clist_0) list_0, Ch.ro 0 (Sl aat_2 at_2 cat_2) at_2] := H
  refine st (v := (B r6)) (rv_pick_t (congrArg B hb5) rfl) ?_
  refine st (v := (B r6)) (rv_move rfl) ?_
  rcases Bool.eq_false_or_eq_true r6 with hb10 | hb10
  ·replace h := bif_t hb10 h
   refine st_g (v := (Sl aat_2 at_2 cat_2)) (congrArg some hb10) (rv_move rfl) ?_
   obtain ⟨r11, hx12, h'⟩ := bind_some h
   clear h
   have h := h'; clear h'
   have hc13 := c_spec_isVector (av_0 := aat_2) (cv_0 := cat_2) hx12
   refine st_call (cx_call hc13 (ent_f hc13.fn rfl) hn0 (show Hp S0 σ0 _ ([Ch.ro 0 (Sl aat_2 at_2 cat_2) at_2] ++ [Ch.ro 0 (Sl alist_0 list_0 clist_0) list_0, Ch.ro 0 (Sl aat_2 at_2 cat_2) at_2]) from (H.sel' [1, 0, 1] rfl rfl))) (wanted_yes rfl (by exact (congrArg some hb10))) ?_
   rintro _ σ14 ⟨_, ⟨rfl, rfl⟩, H, -⟩
   replace H : Hp S0 σ0 σ14 [Ch.ro 0 (Sl alist_0 list_0 clist_0) list_0, Ch.ro 0 (Sl aat_2 at_2 cat_2) at_2] := H
   refine st (v := (B r11)) (rv_pick_t (congrArg B hb10) rfl) ?_
   refine st (v := (B r11)) (rv_assign rfl) ?_
   refine w_end ?_
   refine q_then ?_
   refine c_ret ?_
   obtain rfl := Option.some.inj h
   exact fin_ret (v := (B r11)) (results_ok Try.results62 (res_tmp (v := (B r11)) rfl res_nil) rfl) ⟨rfl, rfl⟩ (H.sel' [] rfl rfl)
  ·replace h := bif_f hb10 h
   refine st_skip (congrArg some hb10) ?_
   refine st_skip (congrArg some hb10) ?_
   refine st (v := (B false)) (rv_pick_f (congrArg B hb10) rfl) ?_
   refine st (v := (B false)) (rv_assign rfl) ?_
   refine w_end ?_
   refine q_then ?_
   refine c_ret ?_
   obtain rfl := Option.some.inj h
   exact fin_ret (v := (B false)) (results_ok Try.results62 (res_tmp (v := (B false)) rfl res_nil) rfl) ⟨rfl, rfl⟩ (H.sel' [] rfl rfl)
 ·replace h := bif_f hb5 h
  refine st_skip (congrArg some hb5) ?_
  refine st_skip (congrArg some hb5) ?_
  refine st (v := (B false)) (rv_pick_f (congrArg B hb5) rfl) ?_
  refine st (v := (B false)) (rv_move rfl) ?_
  refine st_skip rfl ?_
  refine st_skip rfl ?_
  refine st (v := (B false)) (rv_pick_f rfl rfl) ?_
  refine st (v := (B false)) (rv_assign rfl) ?_
  refine w_end ?_
  refine q_then ?_
  refine c_ret ?_
  obtain rfl := Option.some.inj h
  exact fin_ret (v := (B false)) (results_ok Try.results62 (res_tmp (v := (B false)) rfl res_nil) rfl) ⟨rfl, rfl⟩ (H.sel' [] rfl rfl)

theorem c_spec_nearer {a_0 : Int × Int} {b_1 : Int × Int}  {r : Bool} (h : M.spec_nearer a_0 b_1 = some r) :
    Cal2 Try.prog 72 [(.agg #[(I a_0.1), (I a_0.2)]), (.agg #[(I b_1.1), (I b_1.2)])] [] (fun n0 v L => v = (B r) ∧ L = []) := by
 refine cal2 (n := 24) Try.func72 rfl rfl rfl rfl ?_
 intro S0 σ0 n0 hn0 H
 unfold M.spec_nearer at h
 refine c_seq ?_
 refine rg ?_
 refine st_ex (ex_box (cs := [(I a_0.1), (I a_0.2)]) H hn0 rfl rfl) wn ?_
 rintro _ σ2 ⟨b1, rfl, H, -⟩
 refine st_ex (ex_box (cs := [(I b_1.1), (I b_1.2)]) H hn0 rfl rfl) wn ?_
 rintro _ σ4 ⟨b3, rfl, H, -⟩
 refine st (v := (B false)) (rv_assign rfl) ?_
 refine w_end ?_
 refine q_then ?_
 refine c_seq ?_
 refine rg ?_
 refine st (v := (pt b1 1)) (rv_fieldAddr (off := 1) (ft := 3) Try.underlying40 rfl ti3 rfl rfl) ?_
 have hc5 := H.cell (u := (I a_0.2)) (o' := 1) 1 1 rfl rfl rfl
 refine st (v := (I a_0.2)) (rv_load1 Try.underlying3 rfl rfl hc5) ?_
 refine st (v := (pt b3 1)) (rv_fieldAddr (off := 1) (ft := 3) Try.underlying40 rfl ti3 rfl rfl) ?_
 have hc6 := H.cell (u := (I b_1.2)) (o' := 1) 0 1 rfl rfl rfl
 refine st (v := (I b_1.2)) (rv_load1 Try.underlying3 rfl rfl hc6) ?_
 refine st (v := (B (decide (a_0.2 < b_1.2)))) (rv_lss (a := a_0.2) (b := b_1.2) rfl rfl) ?_
 refine st (v := (B (decide (a_0.2 < b_1.2)))) (rv_move rfl) ?_
 rcases Bool.eq_false_or_eq_true (decide (a_0.2 < b_1.2)) with hb7 | hb7
 ·replace h := bif_t hb7 h
  refine st_skip (congrArg some hb7) ?_
  refine st_skip (congrArg some hb7) ?_
  refine st_skip (congrArg some hb7) ?_
  refine st_skip (congrArg some hb7) ?_
  refine st_skip (congrArg some hb7) ?_
  refine st_skip (congrArg some hb7) ?_
  refine st_skip_u rfl ?_
  refine st_skip_u rfl ?_
  refine st_skip_u rfl ?_
  refine st_skip_u rfl ?_
  refine st_skip_u rfl ?_
  refine st_skip (congrArg some hb7) ?_
  refine st (v := (B true)) (rv_pick_t (congrArg B hb7) rfl) ?_
  refine st (v := (B true)) (rv_assign rfl) ?_
  refine w_end ?_
  refine q_then ?_
  refine c_ret ?_
  obtain rfl := Option.some.inj h
  exact fin_ret (v := (B true)) (results_ok Try.results72 (res_tmp (v := (B true)) rfl res_nil) rfl) ⟨rfl, rfl⟩ (H.sel' [] rfl rfl)
 ·replace h := bif_f hb7 h
  refine st_g (v := (pt b1 1)) (congrArg some hb7) (rv_fieldAddr (off := 1) (ft := 3) Try.underlying40 rfl ti3 rfl rfl) ?_
  have hc8 := H.cell (u := (I a_0.2)) (o' := 1) 1 1 rfl rfl rfl
  refine st_g (v := (I a_0.2)) (congrArg some hb7) (rv_load1 Try.underlying3 rfl rfl hc8) ?_
  refine st_g (v := (pt b3 1)) (congrArg some hb7) (rv_fieldAddr (off := 1) (ft := 3) Try.underlying40 rfl ti3 rfl rfl) ?_
  have hc9 := H.cell (u := (I b_1.2)) (o' := 1) 0 1 rfl rfl rfl
  refine st_g (v := (I b_1.2)) (congrArg some hb7) (rv_load1 Try.underlying3 rfl rfl hc9) ?_
  refine st_g (v := (B (a_0.2 == b_1.2))) (congrArg some hb7) (rv_eql (a := a_0.2) (b := b_1.2) rfl rfl) ?_
  refine st_g (v := (B (a_0.2 == b_1.2))) (congrArg some hb7) (rv_move rfl) ?_
  rcases Bool.eq_false_or_eq_true (a_0.2 == b_1.2) with hb10 | hb10
  ·replace h := bif_t hb10 h
   refine st_g (v := (pt b1 0)) (congrArg some hb10) (rv_fieldAddr (off := 0) (ft := 3) Try.underlying40 rfl ti3 rfl rfl) ?_
   have hc11 := H.cell (u := (I a_0.1)) (o' := 0) 1 0 rfl rfl rfl
   refine st_g (v := (I a_0.1)) (congrArg some hb10) (rv_load1 Try.underlying3 rfl rfl hc11) ?_
   refine st_g (v := (pt b3 0)) (congrArg some hb10) (rv_fieldAddr (off := 0) (ft := 3) Try.underlying40 rfl ti3 rfl rfl) ?_
   have hc12 := H.cell (u := (I b_1.1)) (o' := 0) 0 0 rfl rfl rfl
   refine st_g (v := (I b_1.1)) (congrArg some hb10) (rv_load1 Try.underlying3 rfl rfl hc12) ?_
   refine st_g (v := (B (decide (a_0.1 < b_1.1)))) (congrArg some hb10) (rv_lss (a := a_0.1) (b := b_1.1) rfl rfl) ?_
   refine st_g (v := (B (decide (a_0.1 < b_1.1)))) (congrArg some hb7) (rv_pick_t (congrArg B hb10) rfl) ?_
   refine st (v := (B (decide (a_0.1 < b_1.1)))) (rv_pick_f (congrArg B hb7) rfl) ?_
   refine st (v := (B (decide (a_0.1 < b_1.1)))) (rv_assign rfl) ?_
   refine w_end ?_
   refine q_then ?_
   refine c_ret ?_
   obtain rfl := Option.some.inj h
   exact fin_ret (v := (B (decide (a_0.1 < b_1.1)))) (results_ok Try.results72 (res_tmp (v := (B (decide (a_0.1 < b_1.1)))) rfl res_nil) rfl) ⟨rfl, rfl⟩ (H.sel' [] rfl rfl)
  ·replace h := bif_f hb10 h
   refine st_skip (congrArg some hb10) ?_
   refine st_skip (congrArg some hb10) ?_
   refine st_skip (congrArg some hb10) ?_
   refine st_skip (congrArg some hb10) ?_
   refine st_skip (congrArg some hb10) ?_
   refine st_g (v := (B false)) (congrArg some hb7) (rv_pick_f (congrArg B hb10) rfl) ?_
   refine st (v := (B false)) (rv_pick_f (congrArg B hb7) rfl) ?_
   refine st (v := (B false)) (rv_assign rfl) ?_
   refine w_end ?_
   refine q_then ?_
   refine c_ret ?_
   obtain rfl := Option.some.inj h
   exact fin_ret (v := (B false)) (results_ok Try.results72 (res_tmp (v := (B false)) rfl res_nil) rfl) ⟨rfl, rfl⟩ (H.sel' [] rfl rfl)

theorem c_spec_addHit {list_0 : List (Int × Int)} {h_1 : Int × Int} {k_2 : Int} {alist_0 : Option Addr} {clist_0 : Nat} {r : (List (Int × Int))} (h : M.spec_addHit list_0 h_1 k_2 = some r) :
    Cal2 Try.prog 54 [(Sl alist_0 list_0 clist_0), (.agg #[(I h_1.1), (I h_1.2)]), (I k_2)] [Ch.ro 0 (Sl alist_0 list_0 clist_0) list_0] (fun n0 v L => ∃ (az1 : Option Addr), ∃ (cz2 : Nat), v = (Sl az1 r cz2) ∧ L = [Ch.own n0 n0 (Sl az1 r cz2) r]) := by
 refine cal2 (n := 58) Try.func54 rfl rfl rfl rfl ?_
 intro S0 σ0 n0 hn0 H
 unfold M.spec_addHit at h
 refine c_seq ?_
 refine rg ?_
 refine st_ex (ex_box (cs := [(I h_1.1), (I h_1.2)]) H hn0 rfl rfl) wn ?_
 rintro _ σ2 ⟨b1, rfl, H, -⟩
 refine st (v := (.slice none 0 0)) (rv_assign rfl) ?_
 refine w_end ?_
 refine q_then ?_
 refine c_seq ?_
 obtain ⟨xs4, hx5, h'⟩ := bind_some h
 clear h
 have h := h'; clear h'
 have hc8 := H.cells 0 rfl
 have Hs := H
 refine rg2 (σ := σ2) (Nm := (Nat) × (Option Addr) × (Nat) × (Nat)) 5 [0, 2, 4] [[false, false, false], [true, false, false], [false, false, true], [true, true, false], [true, false, true], [true, true, true]] [[(0, 1), (2, 4)], [(0, 0), (1, 1), (2, 2), (4, 4)], [(1, 3), (4, 5)], [(0, 0), (1, 1), (3, 3)], [(0, 2), (1, 4), (3, 5)]] 5 [fun ((b3, a6, c7, b9) : (Nat) × (Option Addr) × (Nat) × (Nat)) => fun σm => Hp S0 σ0 σm [Ch.bx n0 b1 0 [(I h_1.1), (I h_1.2)] [] [], Ch.ro 0 (Sl alist_0 list_0 clist_0) list_0] ∧ Md (cov []) σ2 σm, fun ((b3, a6, c7, b9) : (Nat) × (Option Addr) × (Nat) × (Nat)) => fun σm => Hp S0 σ0 σm [Ch.own n0 n0 (Sl (some ⟨b3, 0, none⟩) ([] : List (Int × Int)) 0) ([] : List (Int × Int)), Ch.bx n0 b1 0 [(I h_1.1), (I h_1.2)] [] [], Ch.ro 0 (Sl alist_0 list_0 clist_0) list_0] ∧ Md (cov []) σ2 σm, fun ((b3, a6, c7, b9) : (Nat) × (Option Addr) × (Nat) × (Nat)) => fun σm => Hp S0 σ0 σm [Ch.own n0 n0 (Sl (some ⟨b9, 0, none⟩) ([(h_1.1, h_1.2)] : List (Int × Int)) 1) ([(h_1.1, h_1.2)] : List (Int × Int)), Ch.bx n0 b1 0 [(I h_1.1), (I h_1.2)] [] [], Ch.ro 0 (Sl alist_0 list_0 clist_0) list_0] ∧ Md (cov []) σ2 σm, fun ((b3, a6, c7, b9) : (Nat) × (Option Addr) × (Nat) × (Nat)) => fun σm => Hp S0 σ0 σm [Ch.own n0 n0 (Sl a6 xs4 c7) xs4, Ch.bx n0 b1 0 [(I h_1.1), (I h_1.2)] [] [], Ch.ro 0 (Sl alist_0 list_0 clist_0) list_0] ∧ Md (fun i => (cov []) i ∨ (fun b => blk (Sl (some ⟨b3, 0, none⟩) ([] : List (Int × Int)) 0) = some b) i) σ2 σm, fun ((b3, a6, c7, b9) : (Nat) × (Option Addr) × (Nat) × (Nat)) => fun σm => Hp S0 σ0 σm [Ch.own n0 n0 (Sl (some ⟨b9, 0, none⟩) ([(h_1.1, h_1.2)] : List (Int × Int)) 1) ([(h_1.1, h_1.2)] : List (Int × Int)), Ch.own n0 n0 (Sl (some ⟨b3, 0, none⟩) ([] : List (Int × Int)) 0) ([] : List (Int × Int)), Ch.bx n0 b1 0 [(I h_1.1), (I h_1.2)] [] [], Ch.ro 0 (Sl alist_0 list_0 clist_0) list_0] ∧ Md (cov []) σ2 σm, fun ((b3, a6, c7, b9) : (Nat) × (Option Addr) × (Nat) × (Nat)) => fun σm => Hp S0 σ0 σm [Ch.own n0 n0 (Sl (some ⟨b9, 0, none⟩) ([(h_1.1, h_1.2)] : List (Int × Int)) 1) ([(h_1.1, h_1.2)] : List (Int × Int)), Ch.own n0 n0 (Sl a6 xs4 c7) xs4, Ch.bx n0 b1 0 [(I h_1.1), (I h_1.2)] [] [], Ch.ro 0 (Sl alist_0 list_0 clist_0) list_0] ∧ Md (fun i => (cov []) i ∨ (fun b => blk (Sl (some ⟨b3, 0, none⟩) ([] : List (Int × Int)) 0) = some b) i) σ2 σm] [fun ((b3, a6, c7, b9) : (Nat) × (Option Addr) × (Nat) × (Nat)) => (Sl (some ⟨b3, 0, none⟩) ([] : List (Int × Int)) 0), fun ((b3, a6, c7, b9) : (Nat) × (Option Addr) × (Nat) × (Nat)) => (Sl alist_0 list_0 clist_0), fun ((b3, a6, c7, b9) : (Nat) × (Option Addr) × (Nat) × (Nat)) => (Sl a6 xs4 c7), fun ((b3, a6, c7, b9) : (Nat) × (Option Addr) × (Nat) × (Nat)) => (.agg #[(I h_1.1), (I h_1.2)]), fun ((b3, a6, c7, b9) : (Nat) × (Option Addr) × (Nat) × (Nat)) => (Sl (some ⟨b9, 0, none⟩) ([(h_1.1, h_1.2)] : List (Int × Int)) 1)] (0, none, 0, 0) (by kernel_rfl) (by kernel_rfl) ?_ ?_ ?_
 ·intro σm m0
  exact ⟨H.grow (m0.mono fun _ h => h.elim), m0⟩
 ·refine all_cons (by
    refine ⟨?_, ?_⟩
    ·rintro ⟨b3, a6, c7, b9⟩ ρ σm hJ hoff hdep
     obtain ⟨H, m⟩ := id hJ
     refine dp_ex wn (ex_buildSlice (el := n0) (xs := ([] : List (Int × Int))) (ps := []) (cs := []) H hn0 Try.underlying23 ti40 rfl rfl (by kernel_rfl) (.nil) rfl) ?_
     rintro _ σq ⟨b3x, rfl, H2, m2⟩
     exact ⟨_, (b3x, a6, c7, b9), rfl, rfl, ⟨H2.sel' [0, 1, 2] rfl rfl, m.comp0 m2⟩, stab [1, 3, 4] (by kernel_rfl) ⟨rfl, rfl, rfl, trivial⟩⟩
    refine ⟨?_, ?_⟩
    ·rintro ⟨b3, a6, c7, b9⟩ ρ σm hJ hoff hdep
     obtain ⟨H, m⟩ := id hJ
     refine dp_ex wn (ex_buildSlice (el := n0) (xs := ([] : List (Int × Int))) (ps := []) (cs := []) H hn0 Try.underlying23 ti40 rfl rfl (by kernel_rfl) (.nil) rfl) ?_
     rintro _ σq ⟨b3x, rfl, H2, m2⟩
     exact ⟨_, (b3x, a6, c7, b9), rfl, rfl, ⟨H2.sel' [1, 0, 2, 3] rfl rfl, m.comp0 m2⟩, stab [1, 3, 4] (by kernel_rfl) ⟨rfl, rfl, rfl, trivial⟩⟩
    trivial) ?_
  refine ac rfl (by
    intro k; rintro ⟨b3, a6, c7, b9⟩ ρ σm hJ hoff hdep
    have e0 := look_off (N := 58) (hoff 0 rfl) rfl
    exact dp_v (v := (Sl alist_0 list_0 clist_0)) wn (rv_move e0) rfl hJ) ?_
  refine all_cons (by
    refine ⟨?_, ?_⟩
    ·rintro ⟨b3, a6, c7, b9⟩ ρ σm hJ hoff hdep
     have e10 := hdep 0 rfl rfl 10 rfl
     have e11 := hdep 1 rfl rfl 11 rfl
     obtain ⟨H, m⟩ := id hJ
     refine dp_ex wn (ex_append H (i := 0) rfl Try.underlying23 Try.underlying23 ti40 rfl rfl (by decide) ((H.ro 2 rfl).rd.sc) hx5 hn0 e10 e11) ?_
     rintro _ σq ⟨a6x, c7x, rfl, H2, m2⟩
     exact ⟨_, (b3, a6x, c7x, b9), rfl, rfl, ⟨H2.sel' [0, 1, 2] rfl rfl, m.comp m2⟩, stab [0, 1, 3, 4] (by kernel_rfl) ⟨rfl, rfl, rfl, rfl, trivial⟩⟩
    refine ⟨?_, ?_⟩
    ·rintro ⟨b3, a6, c7, b9⟩ ρ σm hJ hoff hdep
     have e10 := hdep 0 rfl rfl 10 rfl
     have e11 := hdep 1 rfl rfl 11 rfl
     obtain ⟨H, m⟩ := id hJ
     refine dp_ex wn (ex_append H (i := 1) rfl Try.underlying23 Try.underlying23 ti40 rfl rfl (by decide) ((H.ro 3 rfl).rd.sc) hx5 hn0 e10 e11) ?_
     rintro _ σq ⟨a6x, c7x, rfl, H2, m2⟩
     exact ⟨_, (b3, a6x, c7x, b9), rfl, rfl, ⟨H2.sel' [1, 0, 2, 3] rfl rfl, m.comp m2⟩, stab [0, 1, 3, 4] (by kernel_rfl) ⟨rfl, rfl, rfl, rfl, trivial⟩⟩
    trivial) ?_
  refine all_cons (by
    refine ⟨?_, ?_⟩
    ·rintro ⟨b3, a6, c7, b9⟩ ρ σm hJ hoff hdep
     have e4 := look_off (N := 58) (hoff 4 rfl) rfl
     obtain ⟨H, m⟩ := id hJ
     have hc8 := H.cells 0 rfl
     exact dp_v (v := (.agg #[(I h_1.1), (I h_1.2)])) wn (rv_load (cs := [(I h_1.1), (I h_1.2)]) Try.underlying40 rfl ti40 e4 rfl hc8) rfl hJ
    refine ⟨?_, ?_⟩
    ·rintro ⟨b3, a6, c7, b9⟩ ρ σm hJ hoff hdep
     have e4 := look_off (N := 58) (hoff 4 rfl) rfl
     obtain ⟨H, m⟩ := id hJ
     have hc8 := H.cells 1 rfl
     exact dp_v (v := (.agg #[(I h_1.1), (I h_1.2)])) wn (rv_load (cs := [(I h_1.1), (I h_1.2)]) Try.underlying40 rfl ti40 e4 rfl hc8) rfl hJ
    refine ⟨?_, ?_⟩
    ·rintro ⟨b3, a6, c7, b9⟩ ρ σm hJ hoff hdep
     have e4 := look_off (N := 58) (hoff 4 rfl) rfl
     obtain ⟨H, m⟩ := id hJ
     have hc8 := H.cells 1 rfl
     exact dp_v (v := (.agg #[(I h_1.1), (I h_1.2)])) wn (rv_load (cs := [(I h_1.1), (I h_1.2)]) Try.underlying40 rfl ti40 e4 rfl hc8) rfl hJ
    trivial) ?_
  refine all_cons (by
    refine ⟨?_, ?_⟩
    ·rintro ⟨b3, a6, c7, b9⟩ ρ σm hJ hoff hdep
     have e13 : look 58 ρ 13 = (.agg #[(I h_1.1), (I h_1.2)]) := hdep 3 rfl rfl 13 rfl
     obtain ⟨H, m⟩ := id hJ
     refine dp_ex wn (ex_buildSlice (el := n0) (xs := ([(h_1.1, h_1.2)] : List (Int × Int))) (ps := [(0, (.agg #[(I h_1.1), (I h_1.2)]))]) (cs := [(I h_1.1), (I h_1.2)]) H hn0 Try.underlying23 ti40 rfl (by show [(0, look 58 ρ 13)] = _; rw [e13]) (by kernel_rfl) (.cons (c := [(I h_1.1), (I h_1.2)]) ⟨[(I h_1.1)], [(I h_1.2)], rfl, rfl, rfl⟩ (.nil)) rfl) ?_
     rintro _ σq ⟨b9x, rfl, H2, m2⟩
     exact ⟨_, (b3, a6, c7, b9x), rfl, rfl, ⟨H2.sel' [0, 1, 2] rfl rfl, m.comp0 m2⟩, stab [0, 1, 2, 3] (by kernel_rfl) ⟨rfl, rfl, rfl, rfl, trivial⟩⟩
    refine ⟨?_, ?_⟩
    ·rintro ⟨b3, a6, c7, b9⟩ ρ σm hJ hoff hdep
     have e13 : look 58 ρ 13 = (.agg #[(I h_1.1), (I h_1.2)]) := hdep 3 rfl rfl 13 rfl
     obtain ⟨H, m⟩ := id hJ
     refine dp_ex wn (ex_buildSlice (el := n0) (xs := ([(h_1.1, h_1.2)] : List (Int × Int))) (ps := [(0, (.agg #[(I h_1.1), (I h_1.2)]))]) (cs := [(I h_1.1), (I h_1.2)]) H hn0 Try.underlying23 ti40 rfl (by show [(0, look 58 ρ 13)] = _; rw [e13]) (by kernel_rfl) (.cons (c := [(I h_1.1), (I h_1.2)]) ⟨[(I h_1.1)], [(I h_1.2)], rfl, rfl, rfl⟩ (.nil)) rfl) ?_
     rintro _ σq ⟨b9x, rfl, H2, m2⟩
     exact ⟨_, (b3, a6, c7, b9x), rfl, rfl, ⟨H2.sel' [0, 1, 2, 3] rfl rfl, m.comp0 m2⟩, stab [0, 1, 2, 3] (by kernel_rfl) ⟨rfl, rfl, rfl, rfl, trivial⟩⟩
    refine ⟨?_, ?_⟩
    ·rintro ⟨b3, a6, c7, b9⟩ ρ σm hJ hoff hdep
     have e13 : look 58 ρ 13 = (.agg #[(I h_1.1), (I h_1.2)]) := hdep 3 rfl rfl 13 rfl
     obtain ⟨H, m⟩ := id hJ
     refine dp_ex wn (ex_buildSlice (el := n0) (xs := ([(h_1.1, h_1.2)] : List (Int × Int))) (ps := [(0, (.agg #[(I h_1.1), (I h_1.2)]))]) (cs := [(I h_1.1), (I h_1.2)]) H hn0 Try.underlying23 ti40 rfl (by show [(0, look 58 ρ 13)] = _; rw [e13]) (by kernel_rfl) (.cons (c := [(I h_1.1), (I h_1.2)]) ⟨[(I h_1.1)], [(I h_1.2)], rfl, rfl, rfl⟩ (.nil)) rfl) ?_
     rintro _ σq ⟨b9x, rfl, H2, m2⟩
     exact ⟨_, (b3, a6, c7, b9x), rfl, rfl, ⟨H2.sel' [0, 1, 2, 3] rfl rfl, m.comp0 m2⟩, stab [0, 1, 2, 3] (by kernel_rfl) ⟨rfl, rfl, rfl, rfl, trivial⟩⟩
    trivial) ?_
  exact all_nil
 ·rintro ⟨b3, a6, c7, b9⟩ ρ σ10 hJ hoff hrel
  have e2 := look_off (N := 58) (hoff 2 rfl) rfl
  have e12 := hrel 2 rfl 12 rfl
  have e14 := hrel 4 rfl 14 rfl
  obtain ⟨H, -⟩ := (show Hp S0 σ0 σ10 [Ch.own n0 n0 (Sl (some ⟨b9, 0, none⟩) ([(h_1.1, h_1.2)] : List (Int × Int)) 1) ([(h_1.1, h_1.2)] : List (Int × Int)), Ch.own n0 n0 (Sl a6 xs4 c7) xs4, Ch.bx n0 b1 0 [(I h_1.1), (I h_1.2)] [] [], Ch.ro 0 (Sl alist_0 list_0 clist_0) list_0] ∧ Md (fun i => (cov []) i ∨ (fun b => blk (Sl (some ⟨b3, 0, none⟩) ([] : List (Int × Int)) 0) = some b) i) σ2 σ10 from hJ)
  clear hJ Hs
  rw [fr_lookL (L := [(2, (I k_2)), (12, (Sl a6 xs4 c7)), (14, (Sl (some ⟨b9, 0, none⟩) ([(h_1.1, h_1.2)] : List (Int × Int)) 1))]) ⟨e2, e12, e14, trivial⟩]
  clear hoff hrel e2 e12 e14
  obtain ⟨xs11, hx12, h'⟩ := bind_some h
  clear h
  have h := h'; clear h'
  refine st_ex (ex_append H (i := 1) rfl Try.underlying23 Try.underlying23 ti40 rfl rfl (by decide) (H.own 0 rfl).rd hx12 hn0 rfl rfl) wn ?_
  rintro _ σ15 ⟨a13, c14, rfl, H, -⟩
  refine st (v := (Sl a13 xs11 c14)) (rv_assign rfl) ?_
  refine w_end ?_
  refine q_then ?_
  refine c_seq ?_
  refine c_seq ?_
  refine rg ?_
  refine st (v := (Sl a13 xs11 c14)) (rv_move rfl) ?_
  refine st (v := (I (xs11.length : Int))) (rv_len Try.underlying23 rfl) ?_
  refine st (v := (I (w64 ((xs11.length : Int) - 1)))) (rv_sub (a := (xs11.length : Int)) (b := 1) rfl rfl) ?_
  refine st (v := (I (w64 ((xs11.length : Int) - 1)))) (rv_assign rfl) ?_
  refine w_end ?_
  refine q_then ?_
  obtain ⟨o16, hj, h'⟩ := bind_some h
  clear h
  refine c_cut (fun e a w => e = .normal ∧ ∃ (ρ : Nat → Value) (σ : St), a = fr 58 (updL ρ [(2, (I k_2)), (7, (Sl a13 o16 c14))]) ∧ w = σ.w ∧ Hp S0 σ0 σ [Ch.own n0 n0 (Sl a13 o16 c14) o16] ∧ o16.length = xs11.length) ?_ ?_
  ·clear h'
   rename _ = some o16 => h
   refine c_blk ?_
   refine wp_loopM _ h (fun s17 a w => ∃ (ρ : Nat → Value) (σ : St), a = fr 58 (updL ρ [(2, (I k_2)), (7, (Sl a13 s17.1 c14)), (8, (I s17.2))]) ∧ w = σ.w ∧ Hp S0 σ0 σ [Ch.own n0 n0 (Sl a13 s17.1 c14) s17.1] ∧ s17.1.length = xs11.length) ⟨_, σ15, fr_join ⟨rfl, rfl, rfl, trivial⟩, rfl, H.sel' [0] rfl rfl, rfl⟩ ?_
   clear h H
   rintro s17 a w o ⟨ρ, σ18, rfl, rfl, H, hn19⟩ h hres
   refine c_seq ?_
   refine c_seq ?_
   obtain ⟨o20, hj, h'⟩ := bind_some h
   clear h
   refine c_cut (fun e a w => e = .normal ∧ ∃ (ρ : Nat → Value) (σ : St), a = fr 58 (updL ρ [(2, (I k_2)), (7, (Sl a13 s17.1 c14)), (8, (I s17.2)), (32, (B o20))]) ∧ w = σ.w ∧ Hp S0 σ0 σ [Ch.own n0 n0 (Sl a13 s17.1 c14) s17.1]) ?_ ?_
   ·clear h'
    rename _ = some o20 => h
    refine rgP (σ := σ18) 12 (by kernel_rfl) (by kernel_rfl) (by kernel_rfl) ?_
    refine sq (v := (I s17.2)) (rv_move rfl) ?_
    refine sq (v := (B (decide (0 < s17.2)))) (rv_gtr (a := s17.2) (b := 0) rfl rfl) ?_
    refine sq (v := (B (decide (0 < s17.2)))) (rv_move rfl) ?_
    rcases Bool.eq_false_or_eq_true (decide (0 < s17.2)) with hb21 | hb21
    ·replace h := bif_t hb21 h
     refine sq_g (v := (Sl a13 s17.1 c14)) (congrArg some hb21) (rv_move rfl) ?_
     refine sq_g (v := (I s17.2)) (congrArg some hb21) (rv_move rfl) ?_
     obtain ⟨x22, hx23, h'⟩ := bind_some h
     clear h
     have h := h'; clear h'
     obtain ⟨b25, o26, hi24, -⟩ := (H.own 0 rfl).ix hx23
     refine sq_g (v := (pt b25 o26)) (congrArg some hb21) (rv_ix Try.underlying23 ti40 rfl rfl hi24) ?_
     obtain ⟨_, ⟨_, _, rfl, rfl, rfl⟩, hl27, hc28⟩ := ((H.own 0 rfl).at hx23 hi24).cells
     refine sq_g (v := (.agg #[(I x22.1), (I x22.2)])) (congrArg some hb21) (rv_load Try.underlying40 rfl ti40 rfl hl27 hc28) ?_
     refine sq_g (v := (Sl a13 s17.1 c14)) (congrArg some hb21) (rv_move rfl) ?_
     refine sq_g (v := (I s17.2)) (congrArg some hb21) (rv_move rfl) ?_
     refine sq_g (v := (I (w64 (s17.2 - 1)))) (congrArg some hb21) (rv_sub (a := s17.2) (b := 1) rfl rfl) ?_
     obtain ⟨x29, hx30, h'⟩ := bind_some h
     clear h
     have h := h'; clear h'
     obtain ⟨b32, o33, hi31, -⟩ := (H.own 0 rfl).ix hx30
     refine sq_g (v := (pt b32 o33)) (congrArg some hb21) (rv_ix Try.underlying23 ti40 rfl rfl hi31) ?_
     obtain ⟨_, ⟨_, _, rfl, rfl, rfl⟩, hl34, hc35⟩ := ((H.own 0 rfl).at hx30 hi31).cells
     refine sq_g (v := (.agg #[(I x29.1), (I x29.2)])) (congrArg some hb21) (rv_load Try.underlying40 rfl ti40 rfl hl34 hc35) ?_
     refine sq_end ?_
     intro σ36 hm37
     replace H := H.grow (hm37.mono fun _ h => h); clear hm37
     obtain ⟨r38, hx39, h'⟩ := bind_some h
     clear h
     have h := h'; clear h'
     have hc40 := c_spec_nearer hx39
     refine st_call (cx_call hc40 (ent_f hc40.fn rfl) hn0 (show Hp S0 σ0 _ ([] ++ [Ch.own n0 n0 (Sl a13 s17.1 c14) s17.1]) from (H.sel' [0] rfl rfl))) (wanted_yes rfl (by exact (congrArg some hb21))) ?_
     rintro _ σ41 ⟨_, ⟨rfl, rfl⟩, H, -⟩
     replace H : Hp S0 σ0 σ41 [Ch.own n0 n0 (Sl a13 s17.1 c14) s17.1] := H
     refine st (v := (B r38)) (rv_pick_t (congrArg B hb21) rfl) ?_
     refine w_end ?_
     obtain rfl := Option.some.inj h
     exact ⟨rfl, _, σ41, fr_join ⟨rfl, rfl, rfl, rfl, trivial⟩, rfl, H.sel' [0] rfl rfl⟩
    ·replace h := bif_f hb21 h
     refine sq_skip (congrArg some hb21) ?_
     refine sq_skip (congrArg some hb21) ?_
     refine sq_skip (congrArg some hb21) ?_
     refine sq_skip (congrArg some hb21) ?_
     refine sq_skip (congrArg some hb21) ?_
     refine sq_skip (congrArg some hb21) ?_
     refine sq_skip (congrArg some hb21) ?_
     refine sq_skip (congrArg some hb21) ?_
     refine sq_skip (congrArg some hb21) ?_
     refine sq_end ?_
     intro σ42 hm43
     replace H := H.grow (hm43.mono fun _ h => h); clear hm43
     refine st_skip (congrArg some hb21) ?_
     refine st (v := (B false)) (rv_pick_f (congrArg B hb21) rfl) ?_
     refine w_end ?_
     obtain rfl := Option.some.inj h
     exact ⟨rfl, _, σ42, fr_join ⟨rfl, rfl, rfl, rfl, trivial⟩, rfl, H.sel' [0] rfl rfl⟩
   ·clear hj
    have h := h'
    clear h' H
    rintro e a w ⟨rfl, ρ, σ44, rfl, rfl, H⟩
    refine q_then ?_
    refine cd_cond o20 rfl (fun hb45 => ?_) (fun hb45 => ?_)
    ·replace h := bif_t hb45 h
     refine c_skip ?_
     refine q_then ?_
     refine c_seq ?_
     refine c_blk ?_
     refine c_seq ?_
     refine rg ?_
     refine st (v := (Sl a13 s17.1 c14)) (rv_move rfl) ?_
     refine st (v := (I s17.2)) (rv_move rfl) ?_
     obtain ⟨x46, hx47, h'⟩ := bind_some h
     clear h
     have h := h'; clear h'
     obtain ⟨b49, o50, hi48, -⟩ := (H.own 0 rfl).ix hx47
     refine st (v := (pt b49 o50)) (rv_ix Try.underlying23 ti40 rfl rfl hi48) ?_
     obtain ⟨_, ⟨_, _, rfl, rfl, rfl⟩, hl51, hc52⟩ := ((H.own 0 rfl).at hx47 hi48).cells
     refine st (v := (.agg #[(I x46.1), (I x46.2)])) (rv_load Try.underlying40 rfl ti40 rfl hl51 hc52) ?_
     refine st_ex (ex_alloc (cs := [(I 0), (I 0)]) H hn0 ti40 rfl) wn ?_
     rintro _ σ54 ⟨b53, rfl, H, -⟩
     refine st_exS (ex_store_box (k := 0) (cs := [(I 0), (I 0)]) (vs := [(I x46.1), (I x46.2)]) (cs' := [(I x46.1), (I x46.2)]) H (i := 0) rfl ti40 rfl rfl rfl rfl rfl (Nat.le_of_ble_eq_true rfl) (by simp [plain]) rfl) wn ?_
     rintro σ55 ⟨H, -⟩
     refine w_end ?_
     refine q_then ?_
     refine c_seq ?_
     refine rg ?_
     refine st (v := (Sl a13 s17.1 c14)) (rv_move rfl) ?_
     refine st (v := (I s17.2)) (rv_move rfl) ?_
     refine st (v := (Sl a13 s17.1 c14)) (rv_move rfl) ?_
     refine st (v := (I s17.2)) (rv_move rfl) ?_
     refine st (v := (I (w64 (s17.2 - 1)))) (rv_sub (a := s17.2) (b := 1) rfl rfl) ?_
     obtain ⟨x56, hx57, h'⟩ := bind_some h
     clear h
     have h := h'; clear h'
     obtain ⟨b59, o60, hi58, -⟩ := (H.own 1 rfl).ix hx57
     refine st (v := (pt b59 o60)) (rv_ix Try.underlying23 ti40 rfl rfl hi58) ?_
     obtain ⟨_, ⟨_, _, rfl, rfl, rfl⟩, hl61, hc62⟩ := ((H.own 1 rfl).at hx57 hi58).cells
     refine st (v := (.agg #[(I x56.1), (I x56.2)])) (rv_load Try.underlying40 rfl ti40 rfl hl61 hc62) ?_
     obtain ⟨x63, hx64, h'⟩ := bind_some h
     clear h
     have h := h'; clear h'
     obtain ⟨b66, o67, hi65, -⟩ := (H.own 1 rfl).ix hx64
     refine st (v := (pt b66 o67)) (rv_ix Try.underlying23 ti40 rfl rfl hi65) ?_
     refine st_exS (ex_store_own (e' := (x56.1, x56.2)) (vs := [(I x56.1), (I x56.2)]) (k := 0) H (i := 1) rfl ti40 hx64 hi65 rfl rfl rfl rfl rfl (Nat.le_of_ble_eq_true rfl) (by simp [plain]) (by rintro _ ⟨_, _, rfl, rfl, rfl⟩; exact ⟨[(I x56.1)], [(I x56.2)], rfl, rfl, rfl⟩)) wn ?_
     rintro σ68 ⟨H, -⟩
     have hsl : (Sl a13 s17.1 c14) = (Sl a13 (s17.1.set s17.2.toNat (x56.1, x56.2)) c14) := sl_len List.length_set.symm
     rw [hsl]; rw [hsl] at H; clear hsl
     refine w_end ?_
     refine q_then ?_
     refine rg ?_
     refine st (v := (Sl a13 (s17.1.set s17.2.toNat (x56.1, x56.2)) c14)) (rv_move rfl) ?_
     refine st (v := (I s17.2)) (rv_move rfl) ?_
     refine st (v := (I (w64 (s17.2 - 1)))) (rv_sub (a := s17.2) (b := 1) rfl rfl) ?_
     have hc69 := H.cells 1 rfl
     refine st (v := (.agg #[(I x46.1), (I x46.2)])) (rv_load (cs := [(I x46.1), (I x46.2)]) Try.underlying40 rfl ti40 rfl rfl hc69) ?_
     obtain ⟨x70, hx71, h'⟩ := bind_some h
     clear h
     have h := h'; clear h'
     obtain ⟨b73, o74, hi72, -⟩ := (H.own 0 rfl).ix hx71
     refine st (v := (pt b73 o74)) (rv_ix Try.underlying23 ti40 rfl rfl hi72) ?_
     refine st_exS (ex_store_own (e' := (x46.1, x46.2)) (vs := [(I x46.1), (I x46.2)]) (k := 0) H (i := 0) rfl ti40 hx71 hi72 rfl rfl rfl rfl rfl (Nat.le_of_ble_eq_true rfl) (by simp [plain]) (by rintro _ ⟨_, _, rfl, rfl, rfl⟩; exact ⟨[(I x46.1)], [(I x46.2)], rfl, rfl, rfl⟩)) wn ?_
     rintro σ75 ⟨H, -⟩
     have hsl : (Sl a13 (s17.1.set s17.2.toNat (x56.1, x56.2)) c14) = (Sl a13 ((s17.1.set s17.2.toNat (x56.1, x56.2)).set (w64 (s17.2 - 1)).toNat (x46.1, x46.2)) c14) := sl_len List.length_set.symm
     rw [hsl]; rw [hsl] at H; clear hsl
     refine w_end ?_
     refine q_blk ?_
     refine q_then ?_
     refine rg ?_
     refine st (v := (I s17.2)) (rv_move rfl) ?_
     refine st (v := (I (w64 (s17.2 - 1)))) (rv_sub (a := s17.2) (b := 1) rfl rfl) ?_
     refine st (v := (I (w64 (s17.2 - 1)))) (rv_assign rfl) ?_
     refine w_end ?_
     refine q_then ?_
     obtain rfl := Option.some.inj h
     exact ⟨_, rfl, _, σ75, fr_join ⟨rfl, rfl, rfl, trivial⟩, rfl, H.sel' [0] rfl rfl, (List.length_set.trans (List.length_set.trans hn19))⟩
    ·replace h := bif_f hb45 h
     refine c_exit ?_
     refine q_then_x ?_
     refine q_then_x ?_
     refine q_blk_hit ?_
     obtain rfl := Option.some.inj h
     obtain rfl := hres _ rfl
     exact ⟨rfl, _, σ44, fr_join ⟨rfl, rfl, trivial⟩, rfl, H.sel' [0] rfl rfl, hn19⟩
  ·clear hj
   have h := h'
   clear h' H
   rintro e a w ⟨rfl, ρ, σ76, rfl, rfl, H, hn77⟩
   refine q_then ?_
   refine c_seq ?_
   refine rg ?_
   refine st (v := (Sl a13 o16 c14)) (rv_move rfl) ?_
   refine st (v := (I k_2)) (rv_move rfl) ?_
   refine st (v := (Sl a13 o16 c14)) (rv_move rfl) ?_
   refine st (v := (I (o16.length : Int))) (rv_len Try.underlying23 rfl) ?_
   refine st (v := (I (min k_2 (o16.length : Int)))) (rv_min rfl rfl) ?_
   obtain ⟨xs78, hx79, h'⟩ := bind_some h
   clear h
   have h := h'; clear h'
   obtain ⟨a80, c81, hs82, hR83, hb84⟩ := (H.own 0 rfl).slice hx79
   replace H := (H.front (i := 0) rfl).turn (d := Ch.own n0 n0 (Sl a80 xs78 c81) xs78) (fun _ => hR83) hb84; clear hR83 hb84
   refine st (v := (Sl a80 xs78 c81)) (rv_slice_h Try.underlying23 ti40 hs82 rfl rfl) ?_
   refine st (v := (Sl a80 xs78 c81)) (rv_assign rfl) ?_
   refine w_end ?_
   refine q_then ?_
   refine c_ret ?_
   obtain rfl := Option.some.inj h
   exact fin_ret (v := (Sl a80 xs78 c81)) (results_ok Try.results54 (res_tmp (v := (Sl a80 xs78 c81)) rfl res_nil) rfl) ⟨a80, c81, rfl, rfl⟩ (H.sel' [0] rfl rfl)

theorem c_spec_toInt {b_0 : Bool}  {r : Int} (h : M.spec_toInt b_0 = some r) :
    Cal2 Try.prog 47 [(B b_0)] [] (fun n0 v L => v = (I r) ∧ L = []) := by
 refine cal2 (n := 4) Try.func47 rfl rfl rfl rfl ?_
 intro S0 σ0 n0 hn0 H
 unfold M.spec_toInt at h
 refine c_seq ?_
 refine rg ?_
 refine st (v := (I 0)) (rv_assign rfl) ?_
 refine w_end ?_
 refine q_then ?_
 refine c_seq ?_
 refine c_seq ?_
 refine rg ?_
 refine st (v := (B b_0)) (rv_move rfl) ?_
 refine w_end ?_
 refine q_then ?_
 refine cd_cond b_0 rfl (fun hb1 => ?_) (fun hb1 => ?_)
 ·replace h := bif_t hb1 h
  refine c_seq ?_
  refine rg ?_
  refine st (v := (I 1)) (rv_assign rfl) ?_
  refine w_end ?_
  refine q_then ?_
  refine c_ret ?_
  refine q_then_r ?_
  obtain rfl := Option.some.inj h
  exact fin_ret (v := (I 1)) (results_ok Try.results47 (res_tmp (v := (I 1)) rfl res_nil) rfl) ⟨rfl, rfl⟩ (H.sel' [] rfl rfl)
 ·replace h := bif_f hb1 h
  refine c_skip ?_
  refine q_then ?_
  refine c_seq ?_
  refine rg ?_
  refine st (v := (I 0)) (rv_assign rfl) ?_
  refine w_end ?_
  refine q_then ?_
  refine c_ret ?_
  obtain rfl := Option.some.inj h
  exact fin_ret (v := (I 0)) (results_ok Try.results47 (res_tmp (v := (I 0)) rfl res_nil) rfl) ⟨rfl, rfl⟩ (H.sel' [] rfl rfl)

theorem c_spec_size {n_0 : Int}  {r : Int} (h : M.spec_size n_0 = some r) :
    Cal2 Try.prog 104 [(I n_0)] [] (fun n0 v L => v = (I r) ∧ L = []) := by
 refine cal2 (n := 7) Try.func104 rfl rfl rfl rfl ?_
 intro S0 σ0 n0 hn0 H
 unfold M.spec_size at h
 refine c_seq ?_
 refine rg ?_
 refine st (v := (I 0)) (rv_assign rfl) ?_
 refine w_end ?_
 refine q_then ?_
 refine c_seq ?_
 refine rg ?_
 refine st (v := (I n_0)) (rv_move rfl) ?_
 refine st (v := (I n_0)) (rv_move rfl) ?_
 refine st (v := (I (w64 (0 - n_0)))) (rv_neg (a := n_0) rfl) ?_
 refine st (v := (I (max n_0 (w64 (0 - n_0))))) (rv_max rfl rfl) ?_
 refine st (v := (I (max n_0 (w64 (0 - n_0))))) (rv_assign rfl) ?_
 refine w_end ?_
 refine q_then ?_
 refine c_ret ?_
 obtain rfl := Option.some.inj h
 exact fin_ret (v := (I (max n_0 (w64 (0 - n_0))))) (results_ok Try.results104 (res_tmp (v := (I (max n_0 (w64 (0 - n_0))))) rfl res_nil) rfl) ⟨rfl, rfl⟩ (H.sel' [] rfl rfl)

theorem c_spec_dist {kind_0 : Int} {a_1 : List Int} {b_2 : List Int} {aa_1 : Option Addr} {ca_1 : Nat} {ab_2 : Option Addr} {cb_2 : Nat} {r : Int} (h : M.spec_dist kind_0 a_1 b_2 = some r) :
    Cal2 Try.prog 87 [(I kind_0), (Sl aa_1 a_1 ca_1), (Sl ab_2 b_2 cb_2)] [Ch.ro 0 (Sl aa_1 a_1 ca_1) a_1, Ch.ro 0 (Sl ab_2 b_2 cb_2) b_2] (fun n0 v L => v = (I r) ∧ L = []) := by
 refine cal2 (n := 50) Try.func87 rfl rfl rfl rfl ?_
 intro S0 σ0 n0 hn0 H
 unfold M.spec_dist at h
 refine c_seq ?_
 refine rg ?_
 refine st (v := (I 0)) (rv_assign rfl) ?_
 refine w_end ?_
 refine q_then ?_
 refine c_seq ?_
 refine rg ?_
 refine st (v := (I 0)) (rv_assign rfl) ?_
 refine w_end ?_
 refine q_then ?_
 refine c_seq ?_
 refine c_seq ?_
 refine rg ?_
 refine st (v := (I 0)) (rv_assign rfl) ?_
 refine w_end ?_
 refine q_then ?_
 obtain ⟨o1, hj, h'⟩ := bind_some h
 clear h
 refine c_cut (fun e a w => e = .normal ∧ ∃ (ρ : Nat → Value) (σ : St), a = fr 50 (updL ρ [(7, (I o1))]) ∧ w = σ.w ∧ Hp S0 σ0 σ []) ?_ ?_
 ·clear h'
  rename _ = some o1 => h
  refine c_blk ?_
  refine wp_loopM _ h (fun s2 a w => ∃ (ρ : Nat → Value) (σ : St), a = fr 50 (updL ρ [(0, (I kind_0)), (1, (Sl aa_1 a_1 ca_1)), (2, (Sl ab_2 b_2 cb_2)), (7, (I s2.1)), (8, (I s2.2))]) ∧ w = σ.w ∧ Hp S0 σ0 σ [Ch.ro 0 (Sl aa_1 a_1 ca_1) a_1, Ch.ro 0 (Sl ab_2 b_2 cb_2) b_2]) ⟨_, σ0, fr_join ⟨rfl, rfl, rfl, rfl, rfl, trivial⟩, rfl, H.sel' [0, 1] rfl rfl⟩ ?_
  clear h H
  rintro s2 a w o ⟨ρ, σ3, rfl, rfl, H⟩ h hres
  refine c_seq ?_
  refine c_seq ?_
  refine rg ?_
  refine st (v := (I s2.2)) (rv_move rfl) ?_
  refine st (v := (Sl aa_1 a_1 ca_1)) (rv_move rfl) ?_
  refine st (v := (I (a_1.length : Int))) (rv_len Try.underlying26 rfl) ?_
  refine st (v := (B (decide (s2.2 < (a_1.length : Int))))) (rv_lss (a := s2.2) (b := (a_1.length : Int)) rfl rfl) ?_
  refine w_end ?_
  refine q_then ?_
  refine cd_cond (decide (s2.2 < (a_1.length : Int))) rfl (fun hb4 => ?_) (fun hb4 => ?_)
  ·replace h := bif_t hb4 h
   refine c_skip ?_
   refine q_then ?_
   refine c_seq ?_
   obtain ⟨o5, hj, h'⟩ := bind_some h
   clear h
   refine c_cut (fun e a w => e = .normal ∧ ∃ (ρ : Nat → Value) (σ : St), a = fr 50 (updL ρ [(0, (I kind_0)), (1, (Sl aa_1 a_1 ca_1)), (2, (Sl ab_2 b_2 cb_2)), (7, (I o5)), (8, (I s2.2))]) ∧ w = σ.w ∧ Hp S0 σ0 σ [Ch.ro 0 (Sl aa_1 a_1 ca_1) a_1, Ch.ro 0 (Sl ab_2 b_2 cb_2) b_2]) ?_ ?_
   ·clear h'
    rename _ = some o5 => h
    refine c_blk ?_
    refine c_seq ?_
    refine rgP (σ := σ3) 8 (by kernel_rfl) (by kernel_rfl) (by kernel_rfl) ?_
    refine sq (v := (Sl aa_1 a_1 ca_1)) (rv_move rfl) ?_
    refine sq (v := (I s2.2)) (rv_move rfl) ?_
    obtain ⟨x6, hx7, h'⟩ := bind_some h
    clear h
    have h := h'; clear h'
    obtain ⟨b9, o10, hi8, -⟩ := (H.ro 0 rfl).ix hx7
    refine sq (v := (pt b9 o10)) (rv_ix Try.underlying26 ti3 rfl rfl hi8) ?_
    have hc11 := ((H.ro 0 rfl).at hx7 hi8).int
    refine sq (v := (I x6)) (rv_load1 Try.underlying3 rfl rfl hc11) ?_
    refine sq (v := (Sl ab_2 b_2 cb_2)) (rv_move rfl) ?_
    refine sq (v := (I s2.2)) (rv_move rfl) ?_
    obtain ⟨x12, hx13, h'⟩ := bind_some h
    clear h
    have h := h'; clear h'
    obtain ⟨b15, o16, hi14, -⟩ := (H.ro 1 rfl).ix hx13
    refine sq (v := (pt b15 o16)) (rv_ix Try.underlying26 ti3 rfl rfl hi14) ?_
    have hc17 := ((H.ro 1 rfl).at hx13 hi14).int
    refine sq (v := (I x12)) (rv_load1 Try.underlying3 rfl rfl hc17) ?_
    refine sq_end ?_
    intro σ18 hm19
    replace H := H.grow (hm19.mono fun _ h => h); clear hm19
    refine st (v := (I (w64 (x6 - x12)))) (rv_sub (a := x6) (b := x12) rfl rfl) ?_
    obtain ⟨r20, hx21, h'⟩ := bind_some h
    clear h
    have h := h'; clear h'
    have hc22 := c_spec_size hx21
    refine st_call (cx_call hc22 (ent_f hc22.fn rfl) hn0 (show Hp S0 σ0 _ ([] ++ [Ch.ro 0 (Sl aa_1 a_1 ca_1) a_1, Ch.ro 0 (Sl ab_2 b_2 cb_2) b_2]) from (H.sel' [0, 1] rfl rfl))) wn ?_
    rintro _ σ23 ⟨_, ⟨rfl, rfl⟩, H, -⟩
    replace H : Hp S0 σ0 σ23 [Ch.ro 0 (Sl aa_1 a_1 ca_1) a_1, Ch.ro 0 (Sl ab_2 b_2 cb_2) b_2] := H
    refine st (v := (I r20)) (rv_assign rfl) ?_
    refine w_end ?_
    refine q_then ?_
    refine c_seq ?_
    refine rg ?_
    refine st (v := (I kind_0)) (rv_move rfl) ?_
    refine w_end ?_
    refine q_then ?_
    refine c_blk ?_
    refine c_seq ?_
    refine rg ?_
    refine st (v := (B (kind_0 == 1))) (rv_eql (a := kind_0) (b := 1) rfl rfl) ?_
    refine st (v := (B (kind_0 == 1))) (rv_assign rfl) ?_
    refine w_end ?_
    refine q_then ?_
    refine cd_cond (kind_0 == 1) rfl (fun hb24 => ?_) (fun hb24 => ?_)
    ·replace h := bif_t hb24 h
     refine rg ?_
     refine st (v := (I s2.1)) (rv_move rfl) ?_
     refine st (v := (I r20)) (rv_move rfl) ?_
     refine st (v := (I (w64 (s2.1 + r20)))) (rv_add (a := s2.1) (b := r20) rfl rfl) ?_
     refine st (v := (I (w64 (s2.1 + r20)))) (rv_assign rfl) ?_
     refine w_end ?_
     refine q_blk ?_
     refine q_blk ?_
     obtain rfl := Option.some.inj h
     exact ⟨rfl, _, σ23, fr_join ⟨rfl, rfl, rfl, rfl, rfl, trivial⟩, rfl, H.sel' [0, 1] rfl rfl⟩
    ·replace h := bif_f hb24 h
     refine c_seq ?_
     refine rg ?_
     refine st (v := (B (kind_0 == 2))) (rv_eql (a := kind_0) (b := 2) rfl rfl) ?_
     refine st (v := (B (kind_0 == 2))) (rv_assign rfl) ?_
     refine w_end ?_
     refine q_then ?_
     refine cd_cond (kind_0 == 2) rfl (fun hb25 => ?_) (fun hb25 => ?_)
     ·replace h := bif_t hb25 h
      refine rg ?_
      refine st (v := (I s2.1)) (rv_move rfl) ?_
      refine st (v := (I r20)) (rv_move rfl) ?_
      refine st (v := (I (max s2.1 r20))) (rv_max rfl rfl) ?_
      refine st (v := (I (max s2.1 r20))) (rv_assign rfl) ?_
      refine w_end ?_
      refine q_blk ?_
      refine q_blk ?_
      obtain rfl := Option.some.inj h
      exact ⟨rfl, _, σ23, fr_join ⟨rfl, rfl, rfl, rfl, rfl, trivial⟩, rfl, H.sel' [0, 1] rfl rfl⟩
     ·replace h := bif_f hb25 h
      refine c_seq ?_
      refine rg ?_
      refine st (v := (B (kind_0 == 3))) (rv_eql (a := kind_0) (b := 3) rfl rfl) ?_
      refine st (v := (B (kind_0 == 3))) (rv_assign rfl) ?_
      refine w_end ?_
      refine q_then ?_
      refine cd_cond (kind_0 == 3) rfl (fun hb26 => ?_) (fun hb26 => ?_)
      ·replace h := bif_t hb26 h
       refine rg ?_
       refine st (v := (I s2.1)) (rv_move rfl) ?_
       refine st (v := (I r20)) (rv_move rfl) ?_
       refine st (v := (I r20)) (rv_move rfl) ?_
       refine st (v := (I (w64 (r20 * r20)))) (rv_mul (a := r20) (b := r20) rfl rfl) ?_
       refine st (v := (I (w64 (s2.1 + (w64 (r20 * r20)))))) (rv_add (a := s2.1) (b := (w64 (r20 * r20))) rfl rfl) ?_
       refine st (v := (I (w64 (s2.1 + (w64 (r20 * r20)))))) (rv_assign rfl) ?_
       refine w_end ?_
       refine q_blk ?_
       refine q_blk ?_
       obtain rfl := Option.some.inj h
       exact ⟨rfl, _, σ23, fr_join ⟨rfl, rfl, rfl, rfl, rfl, trivial⟩, rfl, H.sel' [0, 1] rfl rfl⟩
      ·replace h := bif_f hb26 h
       refine rg ?_
       refine st (v := (I s2.1)) (rv_move rfl) ?_
       refine st (v := (I r20)) (rv_move rfl) ?_
       refine st (v := (B (decide (0 < r20)))) (rv_gtr (a := r20) (b := 0) rfl rfl) ?_
       obtain ⟨r27, hx28, h'⟩ := bind_some h
       clear h
       have h := h'; clear h'
       have hc29 := c_spec_toInt hx28
       refine st_call (cx_call hc29 (ent_f hc29.fn rfl) hn0 (show Hp S0 σ0 _ ([] ++ [Ch.ro 0 (Sl aa_1 a_1 ca_1) a_1, Ch.ro 0 (Sl ab_2 b_2 cb_2) b_2]) from (H.sel' [0, 1] rfl rfl))) wn ?_
       rintro _ σ30 ⟨_, ⟨rfl, rfl⟩, H, -⟩
       replace H : Hp S0 σ0 σ30 [Ch.ro 0 (Sl aa_1 a_1 ca_1) a_1, Ch.ro 0 (Sl ab_2 b_2 cb_2) b_2] := H
       refine st (v := (I (w64 (s2.1 + r27)))) (rv_add (a := s2.1) (b := r27) rfl rfl) ?_
       refine st (v := (I (w64 (s2.1 + r27)))) (rv_assign rfl) ?_
       refine w_end ?_
       refine q_blk ?_
       refine q_blk ?_
       obtain rfl := Option.some.inj h
       exact ⟨rfl, _, σ30, fr_join ⟨rfl, rfl, rfl, rfl, rfl, trivial⟩, rfl, H.sel' [0, 1] rfl rfl⟩
   ·clear hj
    have h := h'
    clear h' H
    rintro e a w ⟨rfl, ρ, σ31, rfl, rfl, H⟩
    refine q_then ?_
    refine rg ?_
    refine st (v := (I s2.2)) (rv_move rfl) ?_
    refine st (v := (I (w64 (s2.2 + 1)))) (rv_add (a := s2.2) (b := 1) rfl rfl) ?_
    refine st (v := (I (w64 (s2.2 + 1)))) (rv_assign rfl) ?_
    refine w_end ?_
    refine q_then ?_
    obtain rfl := Option.some.inj h
    exact ⟨_, rfl, _, σ31, fr_join ⟨rfl, rfl, rfl, rfl, rfl, trivial⟩, rfl, H.sel' [0, 1] rfl rfl⟩
  ·replace h := bif_f hb4 h
   refine c_exit ?_
   refine q_then_x ?_
   refine q_then_x ?_
   refine q_blk_hit ?_
   obtain rfl := Option.some.inj h
   obtain rfl := hres _ rfl
   exact ⟨rfl, _, σ3, fr_join ⟨rfl, trivial⟩, rfl, H.sel' [] rfl rfl⟩
 ·clear hj
  have h := h'
  clear h' H
  rintro e a w ⟨rfl, ρ, σ32, rfl, rfl, H⟩
  refine q_then ?_
  refine c_seq ?_
  refine rg ?_
  refine st (v := (I o1)) (rv_move rfl) ?_
  refine st (v := (I o1)) (rv_assign rfl) ?_
  refine w_end ?_
  refine q_then ?_
  refine c_ret ?_
  obtain rfl := Option.some.inj h
  exact fin_ret (v := (I o1)) (results_ok Try.results87 (res_tmp (v := (I o1)) rfl res_nil) rfl) ⟨rfl, rfl⟩ (H.sel' [] rfl rfl)

theorem c_spec_nearest {list_0 : List (Int × (List Int) × Int)} {kind_1 : Int} {at_2 : List Int} {k_3 : Int} {alist_0 : Option Addr} {clist_0 : Nat} {aat_2 : Option Addr} {cat_2 : Nat} {r : (List (Int × Int))} (h : M.spec_nearest list_0 kind_1 at_2 k_3 = some r) :
    Cal2 Try.prog 63 [(Sl alist_0 list_0 clist_0), (I kind_1), (Sl aat_2 at_2 cat_2), (I k_3)] [Ch.ro 0 (Sl alist_0 list_0 clist_0) list_0, Ch.ro 0 (Sl aat_2 at_2 cat_2) at_2] (fun n0 v L => ∃ (az1 : Option Addr), ∃ (cz2 : Nat), v = (Sl az1 r cz2) ∧ L = [Ch.own n0 n0 (Sl az1 r cz2) r]) := by
 refine cal2 (n := 36) Try.func63 rfl rfl rfl rfl ?_
 intro S0 σ0 n0 hn0 H
 unfold M.spec_nearest at h
 refine c_seq ?_
 refine rg ?_
 refine st (v := (.slice none 0 0)) (rv_assign rfl) ?_
 refine w_end ?_
 refine q_then ?_
 refine c_seq ?_
 refine rg ?_
 refine st_ex (ex_buildSlice (el := n0) (xs := ([] : List (Int × Int))) (ps := []) (cs := []) H hn0 Try.underlying23 ti40 rfl rfl (by kernel_rfl) (.nil) rfl) wn ?_
 rintro _ σ2 ⟨b1, rfl, H, -⟩
 refine st (v := (Sl (some ⟨b1, 0, none⟩) ([] : List (Int × Int)) 0)) (rv_assign rfl) ?_
 refine w_end ?_
 refine q_then ?_
 refine c_seq ?_
 refine c_seq ?_
 refine rg ?_
 refine st (v := (I 0)) (rv_assign rfl) ?_
 refine w_end ?_
 refine q_then ?_
 obtain ⟨o3, hj, h'⟩ := bind_some h
 clear h
 refine c_cut (fun e a w => e = .normal ∧ ∃ (ρ : Nat → Value) (σ : St) (aj1 : Option Addr) (cj2 : Nat), a = fr 36 (updL ρ [(9, (Sl aj1 o3 cj2))]) ∧ w = σ.w ∧ Hp S0 σ0 σ [Ch.own n0 n0 (Sl aj1 o3 cj2) o3]) ?_ ?_
 ·clear h'
  rename _ = some o3 => h
  refine c_blk ?_
  refine wp_loopM _ h (fun s4 a w => ∃ (ρ : Nat → Value) (σ : St) (aj1 : Option Addr) (cj2 : Nat), a = fr 36 (updL ρ [(0, (Sl alist_0 list_0 clist_0)), (1, (I kind_1)), (2, (Sl aat_2 at_2 cat_2)), (3, (I k_3)), (9, (Sl aj1 s4.1 cj2)), (10, (I s4.2))]) ∧ w = σ.w ∧ Hp S0 σ0 σ [Ch.ro 0 (Sl alist_0 list_0 clist_0) list_0, Ch.ro 0 (Sl aat_2 at_2 cat_2) at_2, Ch.own n0 n0 (Sl aj1 s4.1 cj2) s4.1]) ⟨_, σ2, (some ⟨b1, 0, none⟩), 0, fr_join ⟨rfl, rfl, rfl, rfl, rfl, rfl, trivial⟩, rfl, H.sel' [1, 2, 0] rfl rfl⟩ ?_
  clear h H
  rintro s4 a w o ⟨ρ, σ5, a6, c7, rfl, rfl, H⟩ h hres
  refine c_seq ?_
  refine c_seq ?_
  refine rg ?_
  refine st (v := (I s4.2)) (rv_move rfl) ?_
  refine st (v := (Sl alist_0 list_0 clist_0)) (rv_move rfl) ?_
  refine st (v := (I (list_0.length : Int))) (rv_len Try.underlying44 rfl) ?_
  refine st (v := (B (decide (s4.2 < (list_0.length : Int))))) (rv_lss (a := s4.2) (b := (list_0.length : Int)) rfl rfl) ?_
  refine w_end ?_
  refine q_then ?_
  refine cd_cond (decide (s4.2 < (list_0.length : Int))) rfl (fun hb8 => ?_) (fun hb8 => ?_)
  ·replace h := bif_t hb8 h
   refine c_skip ?_
   refine q_then ?_
   refine c_seq ?_
   refine c_blk ?_
   obtain ⟨x9, hx10, h'⟩ := bind_some h
   clear h
   have h := h'; clear h'
   obtain ⟨b12, o13, hi11, -⟩ := (H.ro 0 rfl).ix hx10
   have hc14 := ((H.ro 0 rfl).at hx10 hi11).fst.int
   obtain ⟨x15, hx16, h'⟩ := bind_some h
   clear h
   have h := h'; clear h'
   obtain ⟨b18, o19, hi17, -⟩ := (H.ro 0 rfl).ix hx16
   obtain ⟨v23, hc24, hR22⟩ := ((H.ro 0 rfl).at hx16 hi17).snd.fst.slice
   obtain ⟨a20, c21, rfl⟩ := hR22.isSl
   replace H := H.add (d := Ch.ro 0 (Sl a20 x15.2.1 c21) x15.2.1) hR22 (fun _ h => h)
   clear hR22
   obtain ⟨r25, hx26, h'⟩ := bind_some h
   clear h
   have h := h'; clear h'
   have hc27 := c_spec_dist (aa_1 := a20) (ca_1 := c21) (ab_2 := aat_2) (cb_2 := cat_2) hx26
   have Hs := H
   refine rg2 (σ := σ5) (Nm := Unit) 16 [13] [[false], [true]] [[(0, 0), (1, 1)], [(0, 0), (1, 1)], [(0, 0), (1, 1)], [(0, 0), (1, 1)], [(0, 0), (1, 1)], [(0, 0), (1, 1)], [(0, 0)], [(0, 0)], [(0, 0)], [(0, 0)], [(0, 0)], [(0, 0)], [(0, 0)], [(0, 1)], [(1, 1)], [(0, 0), (1, 1)]] 1 [fun _ => fun σm => Hp S0 σ0 σm [Ch.ro 0 (Sl a20 x15.2.1 c21) x15.2.1, Ch.ro 0 (Sl alist_0 list_0 clist_0) list_0, Ch.ro 0 (Sl aat_2 at_2 cat_2) at_2, Ch.own n0 n0 (Sl a6 s4.1 c7) s4.1] ∧ Md (cov []) σ5 σm, fun _ => fun σm => Hp S0 σ0 σm [Ch.ro 0 (Sl a20 x15.2.1 c21) x15.2.1, Ch.ro 0 (Sl alist_0 list_0 clist_0) list_0, Ch.ro 0 (Sl aat_2 at_2 cat_2) at_2, Ch.own n0 n0 (Sl a6 s4.1 c7) s4.1] ∧ Md (cov []) σ5 σm] [fun _ => (Sl a6 s4.1 c7), fun _ => (Sl alist_0 list_0 clist_0), fun _ => (I s4.2), fun _ => (pt b12 o13), fun _ => (pt b12 (o13 + 0)), fun _ => (I x9.1), fun _ => (I kind_1), fun _ => (Sl alist_0 list_0 clist_0), fun _ => (I s4.2), fun _ => (pt b18 o19), fun _ => (pt b18 (o19 + 1)), fun _ => (Sl a20 x15.2.1 c21), fun _ => (Sl aat_2 at_2 cat_2), fun _ => (I r25), fun _ => (.agg #[(I x9.1), (I r25)]), fun _ => (I k_3)] () (by kernel_rfl) (by kernel_rfl) ?_ ?_ ?_
   ·intro σm m0
    exact ⟨H.grow (m0.mono fun _ h => h.elim), m0⟩
   ·refine ac rfl (by
      intro k _nm ρ σm hJ hoff hdep
      have e9 := look_off (N := 36) (hoff 9 rfl) rfl
      exact dp_v (v := (Sl a6 s4.1 c7)) wn (rv_move e9) rfl hJ) ?_
    refine ac rfl (by
      intro k _nm ρ σm hJ hoff hdep
      have e0 := look_off (N := 36) (hoff 0 rfl) rfl
      exact dp_v (v := (Sl alist_0 list_0 clist_0)) wn (rv_move e0) rfl hJ) ?_
    refine ac rfl (by
      intro k _nm ρ σm hJ hoff hdep
      have e10 := look_off (N := 36) (hoff 10 rfl) rfl
      exact dp_v (v := (I s4.2)) wn (rv_move e10) rfl hJ) ?_
    refine ac rfl (by
      intro k _nm ρ σm hJ hoff hdep
      have e19 := hdep 1 rfl rfl 19 rfl
      have e20 := hdep 2 rfl rfl 20 rfl
      exact dp_v (v := (pt b12 o13)) wn (rv_ix Try.underlying44 ti73 e19 e20 hi11) rfl hJ) ?_
    refine ac rfl (by
      intro k _nm ρ σm hJ hoff hdep
      have e21 := hdep 3 rfl rfl 21 rfl
      exact dp_v (v := (pt b12 (o13 + 0))) wn (rv_fieldAddr (off := 0) (ft := 3) Try.underlying73 rfl ti3 rfl e21) rfl hJ) ?_
    refine all_cons (by
      refine ⟨?_, ?_⟩
      ·intro _nm ρ σm hJ hoff hdep
       have e22 := hdep 4 rfl rfl 22 rfl
       obtain ⟨H, m⟩ := id hJ
       replace hc14 := (Hs.ro 1 rfl).hmd hx10 hi11 (k := 0) (by decide) hc14 m
       exact dp_v (v := (I x9.1)) wn (rv_load1 Try.underlying3 rfl e22 hc14) rfl hJ
      refine ⟨?_, ?_⟩
      ·intro _nm ρ σm hJ hoff hdep
       have e22 := hdep 4 rfl rfl 22 rfl
       obtain ⟨H, m⟩ := id hJ
       replace hc14 := (Hs.ro 1 rfl).hmd hx10 hi11 (k := 0) (by decide) hc14 m
       exact dp_v (v := (I x9.1)) wn (rv_load1 Try.underlying3 rfl e22 hc14) rfl hJ
      trivial) ?_
    refine ac rfl (by
      intro k _nm ρ σm hJ hoff hdep
      have e1 := look_off (N := 36) (hoff 1 rfl) rfl
      exact dp_v (v := (I kind_1)) wn (rv_move e1) rfl hJ) ?_
    refine ac rfl (by
      intro k _nm ρ σm hJ hoff hdep
      have e0 := look_off (N := 36) (hoff 0 rfl) rfl
      exact dp_v (v := (Sl alist_0 list_0 clist_0)) wn (rv_move e0) rfl hJ) ?_
    refine ac rfl (by
      intro k _nm ρ σm hJ hoff hdep
      have e10 := look_off (N := 36) (hoff 10 rfl) rfl
      exact dp_v (v := (I s4.2)) wn (rv_move e10) rfl hJ) ?_
    refine ac rfl (by
      intro k _nm ρ σm hJ hoff hdep
      have e25 := hdep 7 rfl rfl 25 rfl
      have e26 := hdep 8 rfl rfl 26 rfl
      exact dp_v (v := (pt b18 o19)) wn (rv_ix Try.underlying44 ti73 e25 e26 hi17) rfl hJ) ?_
    refine ac rfl (by
      intro k _nm ρ σm hJ hoff hdep
      have e27 := hdep 9 rfl rfl 27 rfl
      exact dp_v (v := (pt b18 (o19 + 1))) wn (rv_fieldAddr (off := 1) (ft := 26) Try.underlying73 rfl ti26 rfl e27) rfl hJ) ?_
    refine all_cons (by
      refine ⟨?_, ?_⟩
      ·intro _nm ρ σm hJ hoff hdep
       have e28 := hdep 10 rfl rfl 28 rfl
       obtain ⟨H, m⟩ := id hJ
       replace hc24 := (Hs.ro 1 rfl).hmd hx16 hi17 (k := 1) (by decide) hc24 m
       exact dp_v (v := (Sl a20 x15.2.1 c21)) wn (rv_load1 Try.underlying26 rfl e28 hc24) rfl hJ
      trivial) ?_
    refine ac rfl (by
      intro k _nm ρ σm hJ hoff hdep
      have e2 := look_off (N := 36) (hoff 2 rfl) rfl
      exact dp_v (v := (Sl aat_2 at_2 cat_2)) wn (rv_move e2) rfl hJ) ?_
    refine all_cons (by
      refine ⟨?_, ?_⟩
      ·intro _nm ρ σm hJ hoff hdep
       have e24 : look 36 ρ 24 = (I kind_1) := hdep 6 rfl rfl 24 rfl
       have e29 : look 36 ρ 29 = (Sl a20 x15.2.1 c21) := hdep 11 rfl rfl 29 rfl
       have e30 : look 36 ρ 30 = (Sl aat_2 at_2 cat_2) := hdep 12 rfl rfl 30 rfl
       obtain ⟨H, m⟩ := id hJ
       refine dp_cx wn (cx_call hc27 (ent_f hc27.fn (by show [look 36 ρ 24, look 36 ρ 29, look 36 ρ 30] = _; rw [e24, e29, e30])) hn0 (show Hp S0 σ0 _ ([Ch.ro 0 (Sl a20 x15.2.1 c21) x15.2.1, Ch.ro 0 (Sl aat_2 at_2 cat_2) at_2] ++ [Ch.ro 0 (Sl a20 x15.2.1 c21) x15.2.1, Ch.ro 0 (Sl alist_0 list_0 clist_0) list_0, Ch.ro 0 (Sl aat_2 at_2 cat_2) at_2, Ch.own n0 n0 (Sl a6 s4.1 c7) s4.1]) from (H.sel' [0, 2, 0, 1, 2, 3] rfl rfl))) ?_
       rintro _ σq ⟨_, ⟨rfl, rfl⟩, H2, m2⟩
       exact ⟨_, (), rfl, rfl, ⟨H2.sel' [0, 1, 2, 3] rfl rfl, m.comp0 (m2.mono (fun i h => by simp [cov, Ch.ro] at h))⟩, stab [0, 1, 2, 3, 4, 5, 6, 7, 8, 9, 10, 11, 12, 15] (by kernel_rfl) ⟨rfl, rfl, rfl, rfl, rfl, rfl, rfl, rfl, rfl, rfl, rfl, rfl, rfl, rfl, trivial⟩⟩
      trivial) ?_
    refine ac rfl (by
      intro k _nm ρ σm hJ hoff hdep
      have e23 : look 36 ρ 23 = (I x9.1) := hdep 5 rfl rfl 23 rfl
      have e31 : look 36 ρ 31 = (I r25) := hdep 13 rfl rfl 31 rfl
      exact dp_v (v := (.agg #[(I x9.1), (I r25)])) wn (rv_build (ps := [(0, (I x9.1)), (1, (I r25))]) Try.underlying40 ti40 (bp40 Try.underlying40) (by show [(0, look 36 ρ 23), (1, look 36 ρ 31)] = _; rw [e23, e31]) (by kernel_rfl)) rfl hJ) ?_
    refine ac rfl (by
      intro k _nm ρ σm hJ hoff hdep
      have e3 := look_off (N := 36) (hoff 3 rfl) rfl
      exact dp_v (v := (I k_3)) wn (rv_move e3) rfl hJ) ?_
    exact all_nil
   ·intro _nm ρ σ28 hJ hoff hrel
    have e0 := look_off (N := 36) (hoff 0 rfl) rfl
    have e1 := look_off (N := 36) (hoff 1 rfl) rfl
    have e2 := look_off (N := 36) (hoff 2 rfl) rfl
    have e3 := look_off (N := 36) (hoff 3 rfl) rfl
    have e10 := look_off (N := 36) (hoff 10 rfl) rfl
    have e18 := hrel 0 rfl 18 rfl
    have e32 := hrel 14 rfl 32 rfl
    have e33 := hrel 15 rfl 33 rfl
    obtain ⟨H, -⟩ := (show Hp S0 σ0 σ28 [Ch.ro 0 (Sl a20 x15.2.1 c21) x15.2.1, Ch.ro 0 (Sl alist_0 list_0 clist_0) list_0, Ch.ro 0 (Sl aat_2 at_2 cat_2) at_2, Ch.own n0 n0 (Sl a6 s4.1 c7) s4.1] ∧ Md (cov []) σ5 σ28 from hJ)
    clear hJ Hs
    rw [fr_lookL (L := [(0, (Sl alist_0 list_0 clist_0)), (1, (I kind_1)), (2, (Sl aat_2 at_2 cat_2)), (3, (I k_3)), (10, (I s4.2)), (18, (Sl a6 s4.1 c7)), (32, (.agg #[(I x9.1), (I r25)])), (33, (I k_3))]) ⟨e0, e1, e2, e3, e10, e18, e32, e33, trivial⟩]
    clear hoff hrel e0 e1 e2 e3 e10 e18 e32 e33
    obtain ⟨σ29, hw30, H, -⟩ := H.pub 3 rfl (Nat.le_refl _)
    rw [← hw30]; clear hw30
    replace H := H.roLow 0 0 rfl (Nat.zero_le _)
    obtain ⟨r31, hx32, h'⟩ := bind_some h
    clear h
    have h := h'; clear h'
    have hc33 := c_spec_addHit (alist_0 := a6) (clist_0 := c7) hx32
    refine st_call (cx_call hc33 (ent_f hc33.fn rfl) hn0 (show Hp S0 σ0 _ ([Ch.ro 0 (Sl a6 s4.1 c7) s4.1] ++ [Ch.ro 0 (Sl a6 s4.1 c7) s4.1, Ch.ro n0 (Sl a6 s4.1 c7) s4.1, Ch.ro 0 (Sl a20 x15.2.1 c21) x15.2.1, Ch.ro 0 (Sl alist_0 list_0 clist_0) list_0, Ch.ro 0 (Sl aat_2 at_2 cat_2) at_2]) from (H.sel' [0, 0, 1, 2, 3, 4] rfl rfl))) wn ?_
    rintro _ σ36 ⟨_, ⟨a34, c35, rfl, rfl⟩, H, -⟩
    replace H : Hp S0 σ0 σ36 [Ch.own n0 n0 (Sl a34 r31 c35) r31, Ch.ro 0 (Sl a6 s4.1 c7) s4.1, Ch.ro n0 (Sl a6 s4.1 c7) s4.1, Ch.ro 0 (Sl a20 x15.2.1 c21) x15.2.1, Ch.ro 0 (Sl alist_0 list_0 clist_0) list_0, Ch.ro 0 (Sl aat_2 at_2 cat_2) at_2] := H
    refine st (v := (Sl a34 r31 c35)) (rv_assign rfl) ?_
    refine w_end ?_
    refine q_blk ?_
    refine q_then ?_
    refine rg ?_
    refine st (v := (I s4.2)) (rv_move rfl) ?_
    refine st (v := (I (w64 (s4.2 + 1)))) (rv_add (a := s4.2) (b := 1) rfl rfl) ?_
    refine st (v := (I (w64 (s4.2 + 1)))) (rv_assign rfl) ?_
    refine w_end ?_
    refine q_then ?_
    obtain rfl := Option.some.inj h
    exact ⟨_, rfl, _, σ36, a34, c35, fr_join ⟨rfl, rfl, rfl, rfl, rfl, rfl, trivial⟩, rfl, H.sel' [4, 5, 0] rfl rfl⟩
  ·replace h := bif_f hb8 h
   refine c_exit ?_
   refine q_then_x ?_
   refine q_then_x ?_
   refine q_blk_hit ?_
   obtain rfl := Option.some.inj h
   obtain rfl := hres _ rfl
   exact ⟨rfl, _, σ5, a6, c7, fr_join ⟨rfl, trivial⟩, rfl, H.sel' [2] rfl rfl⟩
 ·clear hj
  have h := h'
  clear h' H
  rintro e a w ⟨rfl, ρ, σ37, a38, c39, rfl, rfl, H⟩
  refine q_then ?_
  refine c_seq ?_
  refine rg ?_
  refine st (v := (Sl a38 o3 c39)) (rv_move rfl) ?_
  refine st (v := (Sl a38 o3 c39)) (rv_assign rfl) ?_
  refine w_end ?_
  refine q_then ?_
  refine c_ret ?_
  obtain rfl := Option.some.inj h
  exact fin_ret (v := (Sl a38 o3 c39)) (results_ok Try.results63 (res_tmp (v := (Sl a38 o3 c39)) rfl res_nil) rfl) ⟨a38, c39, rfl, rfl⟩ (H.sel' [0] rfl rfl)

theorem c_spec_Nearest {list_0 : List (Int × (List Int) × Int)} {kind_1 : Int} {at_2 : List Int} {k_3 : Int} {alist_0 : Option Addr} {clist_0 : Nat} {aat_2 : Option Addr} {cat_2 : Nat} {r : (List (Int × Int))} (h : M.spec_Nearest list_0 kind_1 at_2 k_3 = some r) :
    Cal2 Try.prog 32 [(Sl alist_0 list_0 clist_0), (I kind_1), (Sl aat_2 at_2 cat_2), (I k_3)] [Ch.ro 0 (Sl alist_0 list_0 clist_0) list_0, Ch.ro 0 (Sl aat_2 at_2 cat_2) at_2] (fun n0 v L => ∃ (az1 : Option Addr), ∃ (cz2 : Nat), v = (Sl az1 r cz2) ∧ L = [Ch.own n0 n0 (Sl az1 r cz2) r]) := by
 refine cal2 (n := 24) Try.func32 rfl rfl rfl rfl ?_
 intro S0 σ0 n0 hn0 H
 unfold M.spec_Nearest at h
 refine c_seq ?_
 refine rg ?_
 refine st (v := (.slice none 0 0)) (rv_assign rfl) ?_
 refine w_end ?_
 refine q_then ?_
 refine c_seq ?_
 refine c_seq ?_
 obtain ⟨o1, hj, h'⟩ := bind_some h
 clear h
 refine c_cut (fun e a w => e = .normal ∧ ∃ (ρ : Nat → Value) (σ : St), a = fr 24 (updL ρ [(0, (Sl alist_0 list_0 clist_0)), (1, (I kind_1)), (2, (Sl aat_2 at_2 cat_2)), (3, (I k_3)), (18, (B o1))]) ∧ w = σ.w ∧ Hp S0 σ0 σ [Ch.ro 0 (Sl alist_0 list_0 clist_0) list_0, Ch.ro 0 (Sl aat_2 at_2 cat_2) at_2]) ?_ ?_
 ·clear h'
  rename _ = some o1 => h
  refine rg ?_
  refine st (v := (Sl alist_0 list_0 clist_0)) (rv_move rfl) ?_
  refine st (v := (I kind_1)) (rv_move rfl) ?_
  refine st (v := (Sl aat_2 at_2 cat_2)) (rv_move rfl) ?_
  obtain ⟨r2, hx3, h'⟩ := bind_some h
  clear h
  have h := h'; clear h'
  have hc4 := c_spec_validQuery (alist_0 := alist_0) (clist_0 := clist_0) (aat_2 := aat_2) (cat_2 := cat_2) hx3
  refine st_call (cx_call hc4 (ent_f hc4.fn rfl) hn0 (show Hp S0 σ0 _ ([Ch.ro 0 (Sl alist_0 list_0 clist_0) list_0, Ch.ro 0 (Sl aat_2 at_2 cat_2) at_2] ++ [Ch.ro 0 (Sl alist_0 list_0 clist_0) list_0, Ch.ro 0 (Sl aat_2 at_2 cat_2) at_2]) from (H.sel' [0, 1, 0, 1] rfl rfl))) wn ?_
  rintro _ σ5 ⟨_, ⟨rfl, rfl⟩, H, -⟩
  replace H : Hp S0 σ0 σ5 [Ch.ro 0 (Sl alist_0 list_0 clist_0) list_0, Ch.ro 0 (Sl aat_2 at_2 cat_2) at_2] := H
  refine st (v := (B (!r2))) (rv_not rfl) ?_
  refine st (v := (B (!r2))) (rv_move rfl) ?_
  rcases Bool.eq_false_or_eq_true (!r2) with hb6 | hb6
  ·replace h := bif_t hb6 h
   refine st_skip (congrArg some hb6) ?_
   refine st_skip (congrArg some hb6) ?_
   refine st_skip (congrArg some hb6) ?_
   refine st (v := (B true)) (rv_pick_t (congrArg B hb6) rfl) ?_
   refine w_end ?_
   obtain rfl := Option.some.inj h
   exact ⟨rfl, _, σ5, fr_join ⟨rfl, rfl, rfl, rfl, rfl, trivial⟩, rfl, H.sel' [0, 1] rfl rfl⟩
  ·replace h := bif_f hb6 h
   refine st_g (v := (I k_3)) (congrArg some hb6) (rv_move rfl) ?_
   obtain ⟨r7, hx8, h'⟩ := bind_some h
   clear h
   have h := h'; clear h'
   have hc9 := c_spec_inRange hx8
   refine st_call (cx_call hc9 (ent_f hc9.fn rfl) hn0 (show Hp S0 σ0 _ ([] ++ [Ch.ro 0 (Sl alist_0 list_0 clist_0) list_0, Ch.ro 0 (Sl aat_2 at_2 cat_2) at_2]) from (H.sel' [0, 1] rfl rfl))) (wanted_yes rfl (by exact (congrArg some hb6))) ?_
   rintro _ σ10 ⟨_, ⟨rfl, rfl⟩, H, -⟩
   replace H : Hp S0 σ0 σ10 [Ch.ro 0 (Sl alist_0 list_0 clist_0) list_0, Ch.ro 0 (Sl aat_2 at_2 cat_2) at_2] := H
   refine st_g (v := (B (!r7))) (congrArg some hb6) (rv_not rfl) ?_
   refine st (v := (B (!r7))) (rv_pick_f (congrArg B hb6) rfl) ?_
   refine w_end ?_
   obtain rfl := Option.some.inj h
   exact ⟨rfl, _, σ10, fr_join ⟨rfl, rfl, rfl, rfl, rfl, trivial⟩, rfl, H.sel' [0, 1] rfl rfl⟩
 ·clear hj
  have h := h'
  clear h' H
  rintro e a w ⟨rfl, ρ, σ11, rfl, rfl, H⟩
  refine q_then ?_
  refine cd_cond o1 rfl (fun hb12 => ?_) (fun hb12 => ?_)
  ·replace h := bif_t hb12 h
   refine c_seq ?_
   refine rg ?_
   refine st (v := (.slice none 0 0)) (rv_assign rfl) ?_
   refine w_end ?_
   refine q_then ?_
   refine c_ret ?_
   refine q_then_r ?_
   replace H := H.nilOwn (Int × Int) n0 n0
   obtain rfl := Option.some.inj h
   exact fin_ret (v := (.slice none 0 0)) (results_ok Try.results32 (res_tmp (v := (.slice none 0 0)) rfl res_nil) rfl) ⟨none, 0, rfl, rfl⟩ (H.sel' [0] rfl rfl)
  ·replace h := bif_f hb12 h
   refine c_skip ?_
   refine q_then ?_
   refine c_seq ?_
   refine rg ?_
   refine st (v := (Sl alist_0 list_0 clist_0)) (rv_move rfl) ?_
   refine st (v := (I kind_1)) (rv_move rfl) ?_
   refine st (v := (Sl aat_2 at_2 cat_2)) (rv_move rfl) ?_
   refine st (v := (I k_3)) (rv_move rfl) ?_
   obtain ⟨r13, hx14, h'⟩ := bind_some h
   clear h
   have h := h'; clear h'
   have hc15 := c_spec_nearest (alist_0 := alist_0) (clist_0 := clist_0) (aat_2 := aat_2) (cat_2 := cat_2) hx14
   refine st_call (cx_call hc15 (ent_f hc15.fn rfl) hn0 (show Hp S0 σ0 _ ([Ch.ro 0 (Sl alist_0 list_0 clist_0) list_0, Ch.ro 0 (Sl aat_2 at_2 cat_2) at_2] ++ [Ch.ro 0 (Sl alist_0 list_0 clist_0) list_0, Ch.ro 0 (Sl aat_2 at_2 cat_2) at_2]) from (H.sel' [0, 1, 0, 1] rfl rfl))) wn ?_
   rintro _ σ18 ⟨_, ⟨a16, c17, rfl, rfl⟩, H, -⟩
   replace H : Hp S0 σ0 σ18 [Ch.own n0 n0 (Sl a16 r13 c17) r13, Ch.ro 0 (Sl alist_0 list_0 clist_0) list_0, Ch.ro 0 (Sl aat_2 at_2 cat_2) at_2] := H
   refine st (v := (Sl a16 r13 c17)) (rv_assign rfl) ?_
   refine w_end ?_
   refine q_then ?_
   refine c_ret ?_
   obtain rfl := Option.some.inj h
   exact fin_ret (v := (Sl a16 r13 c17)) (results_ok Try.results32 (res_tmp (v := (Sl a16 r13 c17)) rfl res_nil) rfl) ⟨a16, c17, rfl, rfl⟩ (H.sel' [0] rfl rfl)

theorem c_laws_FnRecallOfNearest {code_0 : List UInt8} {acode_0 : Option Addr} {ccode_0 : Nat} {r : Bool} (h : M.laws_FnRecallOfNearest code_0 = some r) :
    Cal2 Try.prog 10 [(Sl acode_0 code_0 ccode_0)] [Ch.ro 0 (Sl acode_0 code_0 ccode_0) code_0] (fun n0 v L => v = (B r) ∧ L = []) := by
 refine cal2 (n := 61) Try.func10 rfl rfl rfl rfl ?_
 intro S0 σ0 n0 hn0 H
 unfold M.laws_FnRecallOfNearest at h
 refine c_seq ?_
 refine rg ?_
 refine st (v := (B false)) (rv_assign rfl) ?_
 refine w_end ?_
 refine q_then ?_
 refine c_seq ?_
 refine c_seq ?_
 refine rg ?_
 refine st (v := (Sl acode_0 code_0 ccode_0)) (rv_move rfl) ?_
 refine st (v := (I (code_0.length : Int))) (rv_len Try.underlying22 rfl) ?_
 refine st (v := (B (decide (1048576 < (code_0.length : Int))))) (rv_gtr (a := (code_0.length : Int)) (b := 1048576) rfl rfl) ?_
 refine w_end ?_
 refine q_then ?_
 refine cd_cond (decide (1048576 < (code_0.length : Int))) rfl (fun hb1 => ?_) (fun hb1 => ?_)
 ·replace h := bif_t hb1 h
  refine c_seq ?_
  refine rg ?_
  refine st (v := (B true)) (rv_assign rfl) ?_
  refine w_end ?_
  refine q_then ?_
  refine c_ret ?_
  refine q_then_r ?_
  obtain rfl := Option.some.inj h
  exact fin_ret (v := (B true)) (results_ok Try.results10 (res_tmp (v := (B true)) rfl res_nil) rfl) ⟨rfl, rfl⟩ (H.sel' [] rfl rfl)
 ·replace h := bif_f hb1 h
  refine c_skip ?_
  refine q_then ?_
  refine c_seq ?_
  refine rg ?_
  refine st (v := (Sl acode_0 code_0 ccode_0)) (rv_move rfl) ?_
  obtain ⟨r2, hx3, h'⟩ := bind_some h
  clear h
  have h := h'; clear h'
  have hc4 := c_spec_DrawNearest (acode_0 := acode_0) (ccode_0 := ccode_0) hx3
  refine st_call (cx_call hc4 (ent_f hc4.fn rfl) hn0 (show Hp S0 σ0 _ ([Ch.ro 0 (Sl acode_0 code_0 ccode_0) code_0] ++ [Ch.ro 0 (Sl acode_0 code_0 ccode_0) code_0]) from (H.sel' [0, 0] rfl rfl))) wn ?_
  rintro _ σ9 ⟨_, ⟨a5, c6, a7, c8, rfl, rfl⟩, H, -⟩
  replace H : Hp S0 σ0 σ9 [Ch.own n0 n0 (Sl a5 r2.1 c6) r2.1, Ch.own n0 n0 (Sl a7 r2.2.2.1 c8) r2.2.2.1, Ch.ro 0 (Sl acode_0 code_0 ccode_0) code_0] := H
  refine st (v := (.tuple #[(Sl a5 r2.1 c6), (I r2.2.1), (Sl a7 r2.2.2.1 c8), (I r2.2.2.2)])) (rv_move rfl) ?_
  refine st (v := (Sl a5 r2.1 c6)) (rv_extract rfl rfl) ?_
  refine st (v := (I r2.2.1)) (rv_extract rfl rfl) ?_
  refine st (v := (Sl a7 r2.2.2.1 c8)) (rv_extract rfl rfl) ?_
  refine st (v := (I r2.2.2.2)) (rv_extract rfl rfl) ?_
  refine st (v := (Sl a5 r2.1 c6)) (rv_assign rfl) ?_
  refine st (v := (I r2.2.1)) (rv_assign rfl) ?_
  refine st (v := (Sl a7 r2.2.2.1 c8)) (rv_assign rfl) ?_
  refine st (v := (I r2.2.2.2)) (rv_assign rfl) ?_
  refine w_end ?_
  refine q_then ?_
  refine c_seq ?_
  refine rg ?_
  refine st (v := (Sl a5 r2.1 c6)) (rv_move rfl) ?_
  refine st (v := (I r2.2.1)) (rv_move rfl) ?_
  refine st (v := (Sl a7 r2.2.2.1 c8)) (rv_move rfl) ?_
  refine st (v := (I r2.2.2.2)) (rv_move rfl) ?_
  obtain ⟨r10, hx11, h'⟩ := bind_some h
  clear h
  have h := h'; clear h'
  have hc12 := c_impl_Nearest (alist_0 := a5) (clist_0 := c6) (aat_2 := a7) (cat_2 := c8) hx11
  have hle := Nat.le_trans hn0 H.size
  refine st_call (cx_lend (Loan.lend (Loan.lend Loan.nil)) hc12 (ent_f hc12.fn rfl) (show Hp S0 σ0 _ ([Ch.own n0 n0 (Sl a5 r2.1 c6) r2.1, Ch.own n0 n0 (Sl a7 r2.2.2.1 c8) r2.2.2.1] ++ ([] ++ [Ch.ro 0 (Sl acode_0 code_0 ccode_0) code_0])) from (H.sel' [0, 1, 2] rfl rfl)) (by rintro _ _ _ ⟨_, _, rfl, rfl⟩; exact ⟨Ab.ownSc, trivial⟩)) wn ?_
  rintro _ σ15 ⟨_, ⟨a13, c14, rfl, rfl⟩, H, -, -⟩
  replace H : Hp S0 σ0 σ15 [Ch.own 0 σ9.size (Sl a13 r10 c14) r10, Ch.own n0 n0 (Sl a5 r2.1 c6) r2.1, Ch.own n0 n0 (Sl a7 r2.2.2.1 c8) r2.2.2.1, Ch.ro 0 (Sl acode_0 code_0 ccode_0) code_0] := H
  replace H := H.ownLow 0 0 n0 rfl (Nat.le_refl _) hle
  clear hle
  replace H : Hp S0 σ0 σ15 [Ch.own 0 n0 (Sl a13 r10 c14) r10, Ch.own n0 n0 (Sl a5 r2.1 c6) r2.1, Ch.own n0 n0 (Sl a7 r2.2.2.1 c8) r2.2.2.1, Ch.ro 0 (Sl acode_0 code_0 ccode_0) code_0] := H
  refine st (v := (Sl a13 r10 c14)) (rv_assign rfl) ?_
  refine w_end ?_
  refine q_then ?_
  refine c_seq ?_
  refine c_seq ?_
  obtain ⟨o16, hj, h'⟩ := bind_some h
  clear h
  refine c_cut (fun e a w => e = .normal ∧ ∃ (ρ : Nat → Value) (σ : St), a = fr 61 (updL ρ [(3, (Sl a5 r2.1 c6)), (4, (I r2.2.1)), (5, (Sl a7 r2.2.2.1 c8)), (6, (I r2.2.2.2)), (7, (Sl a13 r10 c14)), (36, (B o16))]) ∧ w = σ.w ∧ Hp S0 σ0 σ [Ch.own n0 n0 (Sl a5 r2.1 c6) r2.1, Ch.own n0 n0 (Sl a7 r2.2.2.1 c8) r2.2.2.1, Ch.own 0 n0 (Sl a13 r10 c14) r10]) ?_ ?_
  ·clear h'
   rename _ = some o16 => h
   refine rg ?_
   refine st (v := (Sl a13 r10 c14)) (rv_move rfl) ?_
   refine st (v := (Sl a5 r2.1 c6)) (rv_move rfl) ?_
   refine st (v := (I r2.2.1)) (rv_move rfl) ?_
   refine st (v := (Sl a7 r2.2.2.1 c8)) (rv_move rfl) ?_
   refine st (v := (I r2.2.2.2)) (rv_move rfl) ?_
   obtain ⟨r17, hx18, h'⟩ := bind_some h
   clear h
   have h := h'; clear h'
   have hc19 := c_spec_Nearest (alist_0 := a5) (clist_0 := c6) (aat_2 := a7) (cat_2 := c8) hx18
   have hle := Nat.le_trans hn0 H.size
   refine st_call (cx_lend (Loan.lend (Loan.lend Loan.nil)) hc19 (ent_f hc19.fn rfl) (show Hp S0 σ0 _ ([Ch.own n0 n0 (Sl a5 r2.1 c6) r2.1, Ch.own n0 n0 (Sl a7 r2.2.2.1 c8) r2.2.2.1] ++ ([] ++ [Ch.own 0 n0 (Sl a13 r10 c14) r10, Ch.ro 0 (Sl acode_0 code_0 ccode_0) code_0])) from (H.sel' [1, 2, 0, 3] rfl rfl)) (by rintro _ _ _ ⟨_, _, rfl, rfl⟩; exact ⟨Ab.ownSc, trivial⟩)) wn ?_
   rintro _ σ22 ⟨_, ⟨a20, c21, rfl, rfl⟩, H, -, -⟩
   replace H : Hp S0 σ0 σ22 [Ch.own σ15.size σ15.size (Sl a20 r17 c21) r17, Ch.own n0 n0 (Sl a5 r2.1 c6) r2.1, Ch.own n0 n0 (Sl a7 r2.2.2.1 c8) r2.2.2.1, Ch.own 0 n0 (Sl a13 r10 c14) r10, Ch.ro 0 (Sl acode_0 code_0 ccode_0) code_0] := H
   replace H := H.ownLow 0 n0 n0 rfl hle hle
   clear hle
   replace H : Hp S0 σ0 σ22 [Ch.own n0 n0 (Sl a20 r17 c21) r17, Ch.own n0 n0 (Sl a5 r2.1 c6) r2.1, Ch.own n0 n0 (Sl a7 r2.2.2.1 c8) r2.2.2.1, Ch.own 0 n0 (Sl a13 r10 c14) r10, Ch.ro 0 (Sl acode_0 code_0 ccode_0) code_0] := H
   obtain ⟨σ23, hw24, H, -⟩ := H.pub 0 rfl (Nat.le_refl _)
   rw [← hw24]; clear hw24
   replace H := H.roLow 0 0 rfl (Nat.zero_le _)
   obtain ⟨r25, hx26, h'⟩ := bind_some h
   clear h
   have h := h'; clear h'
   have hc27 := c_laws_equalHits (aa_0 := a13) (ca_0 := c14) (ab_1 := a20) (cb_1 := c21) hx26
   have hle := Nat.le_trans hn0 H.size
   refine st_call (cx_lend (Loan.lend (Loan.same Loan.nil)) hc27 (ent_f hc27.fn rfl) (show Hp S0 σ0 _ ([Ch.own 0 n0 (Sl a13 r10 c14) r10] ++ ([Ch.ro 0 (Sl a20 r17 c21) r17] ++ [Ch.ro 0 (Sl a20 r17 c21) r17, Ch.ro n0 (Sl a20 r17 c21) r17, Ch.own n0 n0 (Sl a5 r2.1 c6) r2.1, Ch.own n0 n0 (Sl a7 r2.2.2.1 c8) r2.2.2.1, Ch.ro 0 (Sl acode_0 code_0 ccode_0) code_0])) from (H.sel' [4, 0, 0, 1, 2, 3, 5] rfl rfl)) (by rintro _ _ _ ⟨rfl, rfl⟩; exact trivial)) wn ?_
   rintro _ σ28 ⟨_, ⟨rfl, rfl⟩, H, -, -⟩
   replace H : Hp S0 σ0 σ28 [Ch.own 0 n0 (Sl a13 r10 c14) r10, Ch.ro 0 (Sl a20 r17 c21) r17, Ch.ro n0 (Sl a20 r17 c21) r17, Ch.own n0 n0 (Sl a5 r2.1 c6) r2.1, Ch.own n0 n0 (Sl a7 r2.2.2.1 c8) r2.2.2.1, Ch.ro 0 (Sl acode_0 code_0 ccode_0) code_0] := H
   clear hle
   replace H : Hp S0 σ0 σ28 [Ch.own 0 n0 (Sl a13 r10 c14) r10, Ch.ro 0 (Sl a20 r17 c21) r17, Ch.ro n0 (Sl a20 r17 c21) r17, Ch.own n0 n0 (Sl a5 r2.1 c6) r2.1, Ch.own n0 n0 (Sl a7 r2.2.2.1 c8) r2.2.2.1, Ch.ro 0 (Sl acode_0 code_0 ccode_0) code_0] := H
   refine st (v := (B (!r25))) (rv_not rfl) ?_
   refine st (v := (B (!r25))) (rv_move rfl) ?_
   rcases Bool.eq_false_or_eq_true (!r25) with hb29 | hb29
   ·replace h := bif_t hb29 h
    refine st_skip (congrArg some hb29) ?_
    refine st_skip (congrArg some hb29) ?_
    refine st_skip (congrArg some hb29) ?_
    refine st (v := (B true)) (rv_pick_t (congrArg B hb29) rfl) ?_
    refine w_end ?_
    obtain rfl := Option.some.inj h
    exact ⟨rfl, _, σ28, fr_join ⟨rfl, rfl, rfl, rfl, rfl, rfl, trivial⟩, rfl, H.sel' [3, 4, 0] rfl rfl⟩
   ·replace h := bif_f hb29 h
    refine st_g (v := (Sl a13 r10 c14)) (congrArg some hb29) (rv_move rfl) ?_
    refine st_g (v := (I (r10.length : Int))) (congrArg some hb29) (rv_len Try.underlying23 rfl) ?_
    refine st_g (v := (B ((r10.length : Int) == 0))) (congrArg some hb29) (rv_eql (a := (r10.length : Int)) (b := 0) rfl rfl) ?_
    refine st (v := (B ((r10.length : Int) == 0))) (rv_pick_f (congrArg B hb29) rfl) ?_
    refine w_end ?_
    obtain rfl := Option.some.inj h
    exact ⟨rfl, _, σ28, fr_join ⟨rfl, rfl, rfl, rfl, rfl, rfl, trivial⟩, rfl, H.sel' [3, 4, 0] rfl rfl⟩
  ·clear hj
   have h := h'
   clear h' H
   rintro e a w ⟨rfl, ρ, σ30, rfl, rfl, H⟩
   refine q_then ?_
   refine cd_cond o16 rfl (fun hb31 => ?_) (fun hb31 => ?_)
   ·replace h := bif_t hb31 h
    refine c_seq ?_
    refine rg ?_
    refine st (v := (Sl a13 r10 c14)) (rv_move rfl) ?_
    refine st (v := (Sl a5 r2.1 c6)) (rv_move rfl) ?_
    refine st (v := (I r2.2.1)) (rv_move rfl) ?_
    refine st (v := (Sl a7 r2.2.2.1 c8)) (rv_move rfl) ?_
    refine st (v := (I r2.2.2.2)) (rv_move rfl) ?_
    obtain ⟨σ32, hw33, H, -⟩ := H.pub 0 rfl (Nat.le_refl _)
    rw [← hw33]; clear hw33
    obtain ⟨σ34, hw35, H, -⟩ := H.pub 1 rfl (Nat.le_refl _)
    rw [← hw35]; clear hw35
    replace H := H.roLow 1 0 rfl (Nat.zero_le _)
    replace H := H.roLow 1 0 rfl (Nat.zero_le _)
    obtain ⟨r36, hx37, h'⟩ := bind_some h
    clear h
    have h := h'; clear h'
    have hc38 := c_spec_Nearest (alist_0 := a5) (clist_0 := c6) (aat_2 := a7) (cat_2 := c8) hx37
    refine st_call (cx_call hc38 (ent_f hc38.fn rfl) hn0 (show Hp S0 σ0 _ ([Ch.ro 0 (Sl a5 r2.1 c6) r2.1, Ch.ro 0 (Sl a7 r2.2.2.1 c8) r2.2.2.1] ++ [Ch.ro 0 (Sl a7 r2.2.2.1 c8) r2.2.2.1, Ch.ro 0 (Sl a5 r2.1 c6) r2.1, Ch.ro n0 (Sl a7 r2.2.2.1 c8) r2.2.2.1, Ch.ro n0 (Sl a5 r2.1 c6) r2.1, Ch.own 0 n0 (Sl a13 r10 c14) r10]) from (H.sel' [1, 0, 0, 1, 2, 3, 4] rfl rfl))) wn ?_
    rintro _ σ41 ⟨_, ⟨a39, c40, rfl, rfl⟩, H, -⟩
    replace H : Hp S0 σ0 σ41 [Ch.own n0 n0 (Sl a39 r36 c40) r36, Ch.ro 0 (Sl a7 r2.2.2.1 c8) r2.2.2.1, Ch.ro 0 (Sl a5 r2.1 c6) r2.1, Ch.ro n0 (Sl a7 r2.2.2.1 c8) r2.2.2.1, Ch.ro n0 (Sl a5 r2.1 c6) r2.1, Ch.own 0 n0 (Sl a13 r10 c14) r10] := H
    replace H := H.ownLow 5 0 0 rfl (Nat.le_refl _) (Nat.zero_le _)
    obtain ⟨σ42, hw43, H, -⟩ := H.pub 0 rfl (Nat.le_refl _)
    rw [← hw43]; clear hw43
    obtain ⟨σ44, hw45, H, -⟩ := H.pub 1 rfl (Nat.le_refl _)
    rw [← hw45]; clear hw45
    replace H := H.roLow 0 0 rfl (Nat.zero_le _)
    obtain ⟨r46, hx47, h'⟩ := bind_some h
    clear h
    have h := h'; clear h'
    have hc48 := c_laws_equalHits (aa_0 := a13) (ca_0 := c14) (ab_1 := a39) (cb_1 := c40) hx47
    refine st_call (cx_call hc48 (ent_f hc48.fn rfl) hn0 (show Hp S0 σ0 _ ([Ch.ro 0 (Sl a13 r10 c14) r10, Ch.ro 0 (Sl a39 r36 c40) r36] ++ [Ch.ro 0 (Sl a39 r36 c40) r36, Ch.ro n0 (Sl a39 r36 c40) r36, Ch.ro 0 (Sl a13 r10 c14) r10, Ch.ro 0 (Sl a7 r2.2.2.1 c8) r2.2.2.1, Ch.ro 0 (Sl a5 r2.1 c6) r2.1, Ch.ro n0 (Sl a7 r2.2.2.1 c8) r2.2.2.1, Ch.ro n0 (Sl a5 r2.1 c6) r2.1]) from (H.sel' [2, 0, 0, 1, 2, 3, 4, 5, 6] rfl rfl))) wn ?_
    rintro _ σ49 ⟨_, ⟨rfl, rfl⟩, H, -⟩
    replace H : Hp S0 σ0 σ49 [Ch.ro 0 (Sl a39 r36 c40) r36, Ch.ro n0 (Sl a39 r36 c40) r36, Ch.ro 0 (Sl a13 r10 c14) r10, Ch.ro 0 (Sl a7 r2.2.2.1 c8) r2.2.2.1, Ch.ro 0 (Sl a5 r2.1 c6) r2.1, Ch.ro n0 (Sl a7 r2.2.2.1 c8) r2.2.2.1, Ch.ro n0 (Sl a5 r2.1 c6) r2.1] := H
    refine st (v := (B r46)) (rv_assign rfl) ?_
    refine w_end ?_
    refine q_then ?_
    refine c_ret ?_
    refine q_then_r ?_
    obtain rfl := Option.some.inj h
    exact fin_ret (v := (B r46)) (results_ok Try.results10 (res_tmp (v := (B r46)) rfl res_nil) rfl) ⟨rfl, rfl⟩ (H.sel' [] rfl rfl)
   ·replace h := bif_f hb31 h
    refine c_skip ?_
    refine q_then ?_
    refine c_seq ?_
    refine rg ?_
    refine st (v := (Sl a5 r2.1 c6)) (rv_move rfl) ?_
    refine st (v := (I r2.2.1)) (rv_move rfl) ?_
    refine st (v := (Sl a7 r2.2.2.1 c8)) (rv_move rfl) ?_
    obtain ⟨σ50, hw51, H, -⟩ := H.pub 0 rfl (Nat.le_refl _)
    rw [← hw51]; clear hw51
    obtain ⟨σ52, hw53, H, -⟩ := H.pub 1 rfl (Nat.le_refl _)
    rw [← hw53]; clear hw53
    replace H := H.roLow 1 0 rfl (Nat.zero_le _)
    replace H := H.roLow 1 0 rfl (Nat.zero_le _)
    obtain ⟨r54, hx55, h'⟩ := bind_some h
    clear h
    have h := h'; clear h'
    have hc56 := c_impl_Nearest (alist_0 := a5) (clist_0 := c6) (aat_2 := a7) (cat_2 := c8) hx55
    refine st_call (cx_call hc56 (ent_f hc56.fn rfl) hn0 (show Hp S0 σ0 _ ([Ch.ro 0 (Sl a5 r2.1 c6) r2.1, Ch.ro 0 (Sl a7 r2.2.2.1 c8) r2.2.2.1] ++ [Ch.ro 0 (Sl a7 r2.2.2.1 c8) r2.2.2.1, Ch.ro 0 (Sl a5 r2.1 c6) r2.1, Ch.ro n0 (Sl a7 r2.2.2.1 c8) r2.2.2.1, Ch.ro n0 (Sl a5 r2.1 c6) r2.1, Ch.own 0 n0 (Sl a13 r10 c14) r10]) from (H.sel' [1, 0, 0, 1, 2, 3, 4] rfl rfl))) wn ?_
    rintro _ σ59 ⟨_, ⟨a57, c58, rfl, rfl⟩, H, -⟩
    replace H : Hp S0 σ0 σ59 [Ch.own 0 n0 (Sl a57 r54 c58) r54, Ch.ro 0 (Sl a7 r2.2.2.1 c8) r2.2.2.1, Ch.ro 0 (Sl a5 r2.1 c6) r2.1, Ch.ro n0 (Sl a7 r2.2.2.1 c8) r2.2.2.1, Ch.ro n0 (Sl a5 r2.1 c6) r2.1, Ch.own 0 n0 (Sl a13 r10 c14) r10] := H
    refine st (v := (Sl a57 r54 c58)) (rv_assign rfl) ?_
    refine w_end ?_
    refine q_then ?_
    refine c_seq ?_
    replace H := H.ownLow 5 0 0 rfl (Nat.le_refl _) (Nat.zero_le _)
    obtain ⟨σ60, hw61, H, -⟩ := H.pub 0 rfl (Nat.le_refl _)
    rw [← hw61]; clear hw61
    replace H := H.ownLow 1 0 0 rfl (Nat.le_refl _) (Nat.zero_le _)
    obtain ⟨σ62, hw63, H, -⟩ := H.pub 0 rfl (Nat.le_refl _)
    rw [← hw63]; clear hw63
    obtain ⟨r64, hx65, h'⟩ := bind_some h
    clear h
    have h := h'; clear h'
    have hc66 := c_impl_RecallOf (aright_0 := a13) (cright_0 := c14) (afound_1 := a57) (cfound_1 := c58) hx65
    obtain ⟨q67, hx68, h'⟩ := bind_some h
    clear h
    have h := h'; clear h'
    rcases Bool.eq_false_or_eq_true (r64 == q67) with hb69 | hb69
    ·replace h := bif_t hb69 h
     have Hs := H
     refine rg2 (σ := σ62) (Nm := Unit) 10 [2] [[false], [true]] [[(0, 0)], [(0, 0)], [(0, 1)], [(0, 0), (1, 1)], [(0, 0), (1, 1)], [(0, 0), (1, 1)], [(1, 1)], [(1, 1)], [(1, 1)], [(1, 1)]] 1 [fun _ => fun σm => Hp S0 σ0 σm [Ch.ro 0 (Sl a57 r54 c58) r54, Ch.ro 0 (Sl a13 r10 c14) r10, Ch.ro 0 (Sl a7 r2.2.2.1 c8) r2.2.2.1, Ch.ro 0 (Sl a5 r2.1 c6) r2.1, Ch.ro n0 (Sl a7 r2.2.2.1 c8) r2.2.2.1, Ch.ro n0 (Sl a5 r2.1 c6) r2.1] ∧ Md (cov []) σ62 σm, fun _ => fun σm => Hp S0 σ0 σm [Ch.ro 0 (Sl a57 r54 c58) r54, Ch.ro 0 (Sl a13 r10 c14) r10, Ch.ro 0 (Sl a7 r2.2.2.1 c8) r2.2.2.1, Ch.ro 0 (Sl a5 r2.1 c6) r2.1, Ch.ro n0 (Sl a7 r2.2.2.1 c8) r2.2.2.1, Ch.ro n0 (Sl a5 r2.1 c6) r2.1] ∧ Md (cov []) σ62 σm] [fun _ => (Sl a13 r10 c14), fun _ => (Sl a57 r54 c58), fun _ => (I r64), fun _ => (Sl a13 r10 c14), fun _ => (I (r10.length : Int)), fun _ => (I q67), fun _ => (B (r64 == q67)), fun _ => (B (r64 == q67)), fun _ => (Sl a57 r54 c58), fun _ => (Sl a13 r10 c14)] () (by kernel_rfl) (by kernel_rfl) ?_ ?_ ?_
     ·intro σm m0
      exact ⟨H.grow (m0.mono fun _ h => h.elim), m0⟩
     ·refine ac rfl (by
        intro k _nm ρ σm hJ hoff hdep
        have e7 := look_off (N := 61) (hoff 7 rfl) rfl
        exact dp_v (v := (Sl a13 r10 c14)) wn (rv_move e7) rfl hJ) ?_
      refine ac rfl (by
        intro k _nm ρ σm hJ hoff hdep
        have e8 := look_off (N := 61) (hoff 8 rfl) rfl
        exact dp_v (v := (Sl a57 r54 c58)) wn (rv_move e8) rfl hJ) ?_
      refine all_cons (by
        refine ⟨?_, ?_⟩
        ·intro _nm ρ σm hJ hoff hdep
         have e48 : look 61 ρ 48 = (Sl a13 r10 c14) := hdep 0 rfl rfl 48 rfl
         have e49 : look 61 ρ 49 = (Sl a57 r54 c58) := hdep 1 rfl rfl 49 rfl
         obtain ⟨H, m⟩ := id hJ
         refine dp_cx wn (cx_call hc66 (ent_f hc66.fn (by show [look 61 ρ 48, look 61 ρ 49] = _; rw [e48, e49])) hn0 (show Hp S0 σ0 _ ([Ch.ro 0 (Sl a13 r10 c14) r10, Ch.ro 0 (Sl a57 r54 c58) r54] ++ [Ch.ro 0 (Sl a57 r54 c58) r54, Ch.ro 0 (Sl a13 r10 c14) r10, Ch.ro 0 (Sl a7 r2.2.2.1 c8) r2.2.2.1, Ch.ro 0 (Sl a5 r2.1 c6) r2.1, Ch.ro n0 (Sl a7 r2.2.2.1 c8) r2.2.2.1, Ch.ro n0 (Sl a5 r2.1 c6) r2.1]) from (H.sel' [1, 0, 0, 1, 2, 3, 4, 5] rfl rfl))) ?_
         rintro _ σq ⟨_, ⟨rfl, rfl⟩, H2, m2⟩
         exact ⟨_, (), rfl, rfl, ⟨H2.sel' [0, 1, 2, 3, 4, 5] rfl rfl, m.comp0 (m2.mono (fun i h => by simp [cov, Ch.ro] at h))⟩, stab [0, 1, 3, 4, 5] (by kernel_rfl) ⟨rfl, rfl, rfl, rfl, rfl, trivial⟩⟩
        trivial) ?_
      refine ac rfl (by
        intro k _nm ρ σm hJ hoff hdep
        have e7 := look_off (N := 61) (hoff 7 rfl) rfl
        exact dp_v (v := (Sl a13 r10 c14)) wn (rv_move e7) rfl hJ) ?_
      refine ac rfl (by
        intro k _nm ρ σm hJ hoff hdep
        have e51 := hdep 3 rfl rfl 51 rfl
        exact dp_v (v := (I (r10.length : Int))) wn (rv_len Try.underlying23 e51) rfl hJ) ?_
      refine ac rfl (by
        intro k _nm ρ σm hJ hoff hdep
        have e52 := hdep 4 rfl rfl 52 rfl
        exact dp_v (v := (I q67)) wn (rv_quoG (a := 1000) (b := (r10.length : Int)) hx68 rfl e52) rfl hJ) ?_
      refine ac rfl (by
        intro k _nm ρ σm hJ hoff hdep
        have e50 := hdep 2 rfl rfl 50 rfl
        have e53 := hdep 5 rfl rfl 53 rfl
        exact dp_v (v := (B (r64 == q67))) wn (rv_eql (a := r64) (b := q67) e50 e53) rfl hJ) ?_
      refine ac rfl (by
        intro k _nm ρ σm hJ hoff hdep
        have e54 := hdep 6 rfl rfl 54 rfl
        exact dp_v (v := (B (r64 == q67))) wn (rv_move e54) rfl hJ) ?_
      refine ac rfl (by
        intro k _nm ρ σm hJ hoff hdep
        have e8 := look_off (N := 61) (hoff 8 rfl) rfl
        have e55 := hdep 7 rfl rfl 55 rfl
        exact dp_v (v := (Sl a57 r54 c58)) (wanted_yes rfl (yv_of rfl (e55.trans (congrArg B hb69)))) (rv_move e8) rfl hJ) ?_
      refine ac rfl (by
        intro k _nm ρ σm hJ hoff hdep
        have e7 := look_off (N := 61) (hoff 7 rfl) rfl
        have e55 := hdep 7 rfl rfl 55 rfl
        exact dp_v (v := (Sl a13 r10 c14)) (wanted_yes rfl (yv_of rfl (e55.trans (congrArg B hb69)))) (rv_move e7) rfl hJ) ?_
      exact all_nil
     ·intro _nm ρ σ70 hJ hoff hrel
      have e55 := hrel 7 rfl 55 rfl
      have e56 := hrel 8 rfl 56 rfl
      have e57 := hrel 9 rfl 57 rfl
      obtain ⟨H, -⟩ := (show Hp S0 σ0 σ70 [Ch.ro 0 (Sl a57 r54 c58) r54, Ch.ro 0 (Sl a13 r10 c14) r10, Ch.ro 0 (Sl a7 r2.2.2.1 c8) r2.2.2.1, Ch.ro 0 (Sl a5 r2.1 c6) r2.1, Ch.ro n0 (Sl a7 r2.2.2.1 c8) r2.2.2.1, Ch.ro n0 (Sl a5 r2.1 c6) r2.1] ∧ Md (cov []) σ62 σ70 from hJ)
      clear hJ Hs
      rw [fr_lookL (L := [(55, (B (r64 == q67))), (56, (Sl a57 r54 c58)), (57, (Sl a13 r10 c14))]) ⟨e55, e56, e57, trivial⟩]
      clear hoff hrel e55 e56 e57
      obtain ⟨r71, hx72, h'⟩ := bind_some h
      clear h
      have h := h'; clear h'
      have hc73 := c_impl_RecallOf (aright_0 := a57) (cright_0 := c58) (afound_1 := a13) (cfound_1 := c14) hx72
      refine st_call (cx_call hc73 (ent_f hc73.fn rfl) hn0 (show Hp S0 σ0 _ ([Ch.ro 0 (Sl a57 r54 c58) r54, Ch.ro 0 (Sl a13 r10 c14) r10] ++ [Ch.ro 0 (Sl a57 r54 c58) r54, Ch.ro 0 (Sl a13 r10 c14) r10, Ch.ro 0 (Sl a7 r2.2.2.1 c8) r2.2.2.1, Ch.ro 0 (Sl a5 r2.1 c6) r2.1, Ch.ro n0 (Sl a7 r2.2.2.1 c8) r2.2.2.1, Ch.ro n0 (Sl a5 r2.1 c6) r2.1]) from (H.sel' [0, 1, 0, 1, 2, 3, 4, 5] rfl rfl))) (wanted_yes rfl (by exact (congrArg some hb69))) ?_
      rintro _ σ74 ⟨_, ⟨rfl, rfl⟩, H, -⟩
      replace H : Hp S0 σ0 σ74 [Ch.ro 0 (Sl a57 r54 c58) r54, Ch.ro 0 (Sl a13 r10 c14) r10, Ch.ro 0 (Sl a7 r2.2.2.1 c8) r2.2.2.1, Ch.ro 0 (Sl a5 r2.1 c6) r2.1, Ch.ro n0 (Sl a7 r2.2.2.1 c8) r2.2.2.1, Ch.ro n0 (Sl a5 r2.1 c6) r2.1] := H
      refine st_g (v := (B (r71 == 1000))) (congrArg some hb69) (rv_eql (a := r71) (b := 1000) rfl rfl) ?_
      refine st (v := (B (r71 == 1000))) (rv_pick_t (congrArg B hb69) rfl) ?_
      refine st (v := (B (r71 == 1000))) (rv_assign rfl) ?_
      refine w_end ?_
      refine q_then ?_
      refine c_ret ?_
      obtain rfl := Option.some.inj h
      exact fin_ret (v := (B (r71 == 1000))) (results_ok Try.results10 (res_tmp (v := (B (r71 == 1000))) rfl res_nil) rfl) ⟨rfl, rfl⟩ (H.sel' [] rfl rfl)
    ·replace h := bif_f hb69 h
     have Hs := H
     refine rg2 (σ := σ62) (Nm := Unit) 10 [2] [[false], [true]] [[(0, 0)], [(0, 0)], [(0, 1)], [(0, 0), (1, 1)], [(0, 0), (1, 1)], [(0, 0), (1, 1)], [(1, 1)], [(1, 1)], [(1, 1)], [(1, 1)]] 1 [fun _ => fun σm => Hp S0 σ0 σm [Ch.ro 0 (Sl a57 r54 c58) r54, Ch.ro 0 (Sl a13 r10 c14) r10, Ch.ro 0 (Sl a7 r2.2.2.1 c8) r2.2.2.1, Ch.ro 0 (Sl a5 r2.1 c6) r2.1, Ch.ro n0 (Sl a7 r2.2.2.1 c8) r2.2.2.1, Ch.ro n0 (Sl a5 r2.1 c6) r2.1] ∧ Md (cov []) σ62 σm, fun _ => fun σm => Hp S0 σ0 σm [Ch.ro 0 (Sl a57 r54 c58) r54, Ch.ro 0 (Sl a13 r10 c14) r10, Ch.ro 0 (Sl a7 r2.2.2.1 c8) r2.2.2.1, Ch.ro 0 (Sl a5 r2.1 c6) r2.1, Ch.ro n0 (Sl a7 r2.2.2.1 c8) r2.2.2.1, Ch.ro n0 (Sl a5 r2.1 c6) r2.1] ∧ Md (cov []) σ62 σm] [fun _ => (Sl a13 r10 c14), fun _ => (Sl a57 r54 c58), fun _ => (I r64), fun _ => (Sl a13 r10 c14), fun _ => (I (r10.length : Int)), fun _ => (I q67), fun _ => (B (r64 == q67)), fun _ => (B (r64 == q67)), fun _ => undef, fun _ => undef] () (by kernel_rfl) (by kernel_rfl) ?_ ?_ ?_
     ·intro σm m0
      exact ⟨H.grow (m0.mono fun _ h => h.elim), m0⟩
     ·refine ac rfl (by
        intro k _nm ρ σm hJ hoff hdep
        have e7 := look_off (N := 61) (hoff 7 rfl) rfl
        exact dp_v (v := (Sl a13 r10 c14)) wn (rv_move e7) rfl hJ) ?_
      refine ac rfl (by
        intro k _nm ρ σm hJ hoff hdep
        have e8 := look_off (N := 61) (hoff 8 rfl) rfl
        exact dp_v (v := (Sl a57 r54 c58)) wn (rv_move e8) rfl hJ) ?_
      refine all_cons (by
        refine ⟨?_, ?_⟩
        ·intro _nm ρ σm hJ hoff hdep
         have e48 : look 61 ρ 48 = (Sl a13 r10 c14) := hdep 0 rfl rfl 48 rfl
         have e49 : look 61 ρ 49 = (Sl a57 r54 c58) := hdep 1 rfl rfl 49 rfl
         obtain ⟨H, m⟩ := id hJ
         refine dp_cx wn (cx_call hc66 (ent_f hc66.fn (by show [look 61 ρ 48, look 61 ρ 49] = _; rw [e48, e49])) hn0 (show Hp S0 σ0 _ ([Ch.ro 0 (Sl a13 r10 c14) r10, Ch.ro 0 (Sl a57 r54 c58) r54] ++ [Ch.ro 0 (Sl a57 r54 c58) r54, Ch.ro 0 (Sl a13 r10 c14) r10, Ch.ro 0 (Sl a7 r2.2.2.1 c8) r2.2.2.1, Ch.ro 0 (Sl a5 r2.1 c6) r2.1, Ch.ro n0 (Sl a7 r2.2.2.1 c8) r2.2.2.1, Ch.ro n0 (Sl a5 r2.1 c6) r2.1]) from (H.sel' [1, 0, 0, 1, 2, 3, 4, 5] rfl rfl))) ?_
         rintro _ σq ⟨_, ⟨rfl, rfl⟩, H2, m2⟩
         exact ⟨_, (), rfl, rfl, ⟨H2.sel' [0, 1, 2, 3, 4, 5] rfl rfl, m.comp0 (m2.mono (fun i h => by simp [cov, Ch.ro] at h))⟩, stab [0, 1, 3, 4, 5] (by kernel_rfl) ⟨rfl, rfl, rfl, rfl, rfl, trivial⟩⟩
        trivial) ?_
      refine ac rfl (by
        intro k _nm ρ σm hJ hoff hdep
        have e7 := look_off (N := 61) (hoff 7 rfl) rfl
        exact dp_v (v := (Sl a13 r10 c14)) wn (rv_move e7) rfl hJ) ?_
      refine ac rfl (by
        intro k _nm ρ σm hJ hoff hdep
        have e51 := hdep 3 rfl rfl 51 rfl
        exact dp_v (v := (I (r10.length : Int))) wn (rv_len Try.underlying23 e51) rfl hJ) ?_
      refine ac rfl (by
        intro k _nm ρ σm hJ hoff hdep
        have e52 := hdep 4 rfl rfl 52 rfl
        exact dp_v (v := (I q67)) wn (rv_quoG (a := 1000) (b := (r10.length : Int)) hx68 rfl e52) rfl hJ) ?_
      refine ac rfl (by
        intro k _nm ρ σm hJ hoff hdep
        have e50 := hdep 2 rfl rfl 50 rfl
        have e53 := hdep 5 rfl rfl 53 rfl
        exact dp_v (v := (B (r64 == q67))) wn (rv_eql (a := r64) (b := q67) e50 e53) rfl hJ) ?_
      refine ac rfl (by
        intro k _nm ρ σm hJ hoff hdep
        have e54 := hdep 6 rfl rfl 54 rfl
        exact dp_v (v := (B (r64 == q67))) wn (rv_move e54) rfl hJ) ?_
      refine ac rfl (by
        intro k _nm ρ σm hJ hoff hdep
        have e55 := hdep 7 rfl rfl 55 rfl
        exact dp_skip (wanted_no rfl (yv_of rfl (e55.trans (congrArg B hb69)))) rfl hJ) ?_
      refine ac rfl (by
        intro k _nm ρ σm hJ hoff hdep
        have e55 := hdep 7 rfl rfl 55 rfl
        exact dp_skip (wanted_no rfl (yv_of rfl (e55.trans (congrArg B hb69)))) rfl hJ) ?_
      exact all_nil
     ·intro _nm ρ σ75 hJ hoff hrel
      have e55 := hrel 7 rfl 55 rfl
      have e56 := hrel 8 rfl 56 rfl
      have e57 := hrel 9 rfl 57 rfl
      obtain ⟨H, -⟩ := (show Hp S0 σ0 σ75 [Ch.ro 0 (Sl a57 r54 c58) r54, Ch.ro 0 (Sl a13 r10 c14) r10, Ch.ro 0 (Sl a7 r2.2.2.1 c8) r2.2.2.1, Ch.ro 0 (Sl a5 r2.1 c6) r2.1, Ch.ro n0 (Sl a7 r2.2.2.1 c8) r2.2.2.1, Ch.ro n0 (Sl a5 r2.1 c6) r2.1] ∧ Md (cov []) σ62 σ75 from hJ)
      clear hJ Hs
      rw [fr_lookL (L := [(55, (B (r64 == q67))), (56, undef), (57, undef)]) ⟨e55, e56, e57, trivial⟩]
      clear hoff hrel e55 e56 e57
      refine st_skip (congrArg some hb69) ?_
      refine st_skip (congrArg some hb69) ?_
      refine st (v := (B false)) (rv_pick_f (congrArg B hb69) rfl) ?_
      refine st (v := (B false)) (rv_assign rfl) ?_
      refine w_end ?_
      refine q_then ?_
      refine c_ret ?_
      obtain rfl := Option.some.inj h
      exact fin_ret (v := (B false)) (results_ok Try.results10 (res_tmp (v := (B false)) rfl res_nil) rfl) ⟨rfl, rfl⟩ (H.sel' [] rfl rfl)

end Go.Vs
