/- The functions compute what their models say. -/
import Derived.Test.YtanbdmdbfjonhaaKMutualLinksMoreC3
set_option linter.unusedVariables false
set_option linter.unusedSimpArgs false
set_option maxRecDepth 20000
namespace Go.Vs
open Go Go.Proofs
attribute [local irreducible] Code.wp Code.wpIn wpList wpListIn wpQuiet Calls CallsIn

theorem c_spec_links {list_0 : List (Int × (List Int) × Int)} {kind_1 : Int} {many_2 : Int} {alist_0 : Option Addr} {clist_0 : Nat} {r : (List (List Int))} (h : M.spec_links list_0 kind_1 many_2 = some r) :
    Cal2 Try.prog 53 [(Sl alist_0 list_0 clist_0), (I kind_1), (I many_2)] [Ch.ro 0 (Sl alist_0 list_0 clist_0) list_0] (fun n0 v L => ∃ (az1 : Option Addr), ∃ (cz2 : Nat), v = (Sl az1 r cz2) ∧ L = [Ch.own n0 n0 (Sl az1 r cz2) r]) := by
 refine cal2 (n := 64) Try.func53 rfl rfl rfl rfl ?_
 intro S0 σ0 n0 hn0 H
 unfold M.spec_links at h
 refine c_seq ?_
 refine rg ?_
 refine st (v := (.slice none 0 0)) (rv_assign rfl) ?_
 refine w_end ?_
 refine q_then ?_
 refine c_seq ?_
 refine rg ?_
 refine st_ex (ex_buildSlice (el := n0) (xs := ([] : List (List Int))) (ps := []) (cs := []) H hn0 Try.underlying26 ti30 rfl rfl (by kernel_rfl) (.nil) rfl) wn ?_
 rintro _ σ2 ⟨b1, rfl, H, -⟩
 refine st (v := (Sl (some ⟨b1, 0, none⟩) ([] : List (List Int)) 0)) (rv_assign rfl) ?_
 refine w_end ?_
 refine q_then ?_
 refine c_seq ?_
 refine c_seq ?_
 refine rg ?_
 refine st (v := (I 0)) (rv_assign rfl) ?_
 refine w_end ?_
 refine q_then ?_
 obtain ⟨o3, hj, h'⟩ := bind_some h
 clear h
 refine c_cut (fun e a w => e = .normal ∧ ∃ (ρ : Nat → Value) (σ : St) (aj1 : Option Addr) (cj2 : Nat), a = fr 64 (updL ρ [(7, (Sl aj1 o3 cj2))]) ∧ w = σ.w ∧ Hp S0 σ0 σ [Ch.own n0 n0 (Sl aj1 o3 cj2) o3]) ?_ ?_
 ·clear h'
  rename _ = some o3 => h
  refine c_blk ?_
  refine wp_loopM _ h (fun s4 a w => ∃ (ρ : Nat → Value) (σ : St) (aj1 : Option Addr) (cj2 : Nat), a = fr 64 (updL ρ [(0, (Sl alist_0 list_0 clist_0)), (1, (I kind_1)), (2, (I many_2)), (7, (Sl aj1 s4.1 cj2)), (8, (I s4.2))]) ∧ w = σ.w ∧ Hp S0 σ0 σ [Ch.ro 0 (Sl alist_0 list_0 clist_0) list_0, Ch.own n0 n0 (Sl aj1 s4.1 cj2) s4.1]) ⟨_, σ2, (some ⟨b1, 0, none⟩), 0, fr_join ⟨rfl, rfl, rfl, rfl, rfl, trivial⟩, rfl, H.sel' [1, 0] rfl rfl⟩ ?_
  clear h H
  rintro s4 a w o ⟨ρ, σ5, a6, c7, rfl, rfl, H⟩ h hres
  refine c_seq ?_
  refine c_seq ?_
  refine rg ?_
  refine st (v := (I s4.2)) (rv_move rfl) ?_
  refine st (v := (Sl alist_0 list_0 clist_0)) (rv_move rfl) ?_
  refine st (v := (I (list_0.length : Int))) (rv_len Try.underlying23 rfl) ?_
  refine st (v := (B (decide (s4.2 < (list_0.length : Int))))) (rv_lss (a := s4.2) (b := (list_0.length : Int)) rfl rfl) ?_
  refine w_end ?_
  refine q_then ?_
  refine cd_cond (decide (s4.2 < (list_0.length : Int))) rfl (fun hb8 => ?_) (fun hb8 => ?_)
  ·replace h := bif_t hb8 h
   refine c_skip ?_
   refine q_then ?_
   refine c_seq ?_
   refine c_blk ?_
   refine c_seq ?_
   refine rg ?_
   refine st_ex (ex_buildSlice (el := n0) (xs := ([] : List (Int × Int))) (ps := []) (cs := []) H hn0 Try.underlying56 ti91 rfl rfl (by kernel_rfl) (.nil) rfl) wn ?_
   rintro _ σ10 ⟨b9, rfl, H, -⟩
   refine st (v := (Sl (some ⟨b9, 0, none⟩) ([] : List (Int × Int)) 0)) (rv_assign rfl) ?_
   refine w_end ?_
   refine q_then ?_
   refine c_seq ?_
   refine c_seq ?_
   refine rg ?_
   refine st (v := (I 0)) (rv_assign rfl) ?_
   refine w_end ?_
   refine q_then ?_
   obtain ⟨o11, hj, h'⟩ := bind_some h
   clear h
   refine c_cut (fun e a w => e = .normal ∧ ∃ (ρ : Nat → Value) (σ : St) (aj1 : Option Addr) (cj2 : Nat), a = fr 64 (updL ρ [(0, (Sl alist_0 list_0 clist_0)), (1, (I kind_1)), (2, (I many_2)), (7, (Sl a6 s4.1 c7)), (8, (I s4.2)), (9, (Sl aj1 o11 cj2))]) ∧ w = σ.w ∧ Hp S0 σ0 σ [Ch.ro 0 (Sl alist_0 list_0 clist_0) list_0, Ch.own n0 n0 (Sl a6 s4.1 c7) s4.1, Ch.own n0 n0 (Sl aj1 o11 cj2) o11]) ?_ ?_
   ·clear h'
    rename _ = some o11 => h
    refine c_blk ?_
    refine wp_loopM _ h (fun s12 a w => ∃ (ρ : Nat → Value) (σ : St) (aj1 : Option Addr) (cj2 : Nat), a = fr 64 (updL ρ [(0, (Sl alist_0 list_0 clist_0)), (1, (I kind_1)), (2, (I many_2)), (7, (Sl a6 s4.1 c7)), (8, (I s4.2)), (9, (Sl aj1 s12.1 cj2)), (10, (I s12.2))]) ∧ w = σ.w ∧ Hp S0 σ0 σ [Ch.ro 0 (Sl alist_0 list_0 clist_0) list_0, Ch.own n0 n0 (Sl a6 s4.1 c7) s4.1, Ch.own n0 n0 (Sl aj1 s12.1 cj2) s12.1]) ⟨_, σ10, (some ⟨b9, 0, none⟩), 0, fr_join ⟨rfl, rfl, rfl, rfl, rfl, rfl, rfl, trivial⟩, rfl, H.sel' [1, 2, 0] rfl rfl⟩ ?_
    clear h H
    rintro s12 a w o ⟨ρ, σ13, a14, c15, rfl, rfl, H⟩ h hres
    refine c_seq ?_
    refine c_seq ?_
    refine rg ?_
    refine st (v := (I s12.2)) (rv_move rfl) ?_
    refine st (v := (Sl alist_0 list_0 clist_0)) (rv_move rfl) ?_
    refine st (v := (I (list_0.length : Int))) (rv_len Try.underlying23 rfl) ?_
    refine st (v := (B (decide (s12.2 < (list_0.length : Int))))) (rv_lss (a := s12.2) (b := (list_0.length : Int)) rfl rfl) ?_
    refine w_end ?_
    refine q_then ?_
    refine cd_cond (decide (s12.2 < (list_0.length : Int))) rfl (fun hb16 => ?_) (fun hb16 => ?_)
    ·replace h := bif_t hb16 h
     refine c_skip ?_
     refine q_then ?_
     refine c_seq ?_
     obtain ⟨o17, hj, h'⟩ := bind_some h
     clear h
     refine c_cut (fun e a w => e = .normal ∧ ∃ (ρ : Nat → Value) (σ : St) (aj1 : Option Addr) (cj2 : Nat), a = fr 64 (updL ρ [(0, (Sl alist_0 list_0 clist_0)), (1, (I kind_1)), (2, (I many_2)), (7, (Sl a6 s4.1 c7)), (8, (I s4.2)), (9, (Sl aj1 o17 cj2)), (10, (I s12.2))]) ∧ w = σ.w ∧ Hp S0 σ0 σ [Ch.ro 0 (Sl alist_0 list_0 clist_0) list_0, Ch.own n0 n0 (Sl a6 s4.1 c7) s4.1, Ch.own n0 n0 (Sl aj1 o17 cj2) o17]) ?_ ?_
     ·clear h'
      rename _ = some o17 => h
      refine c_blk ?_
      refine c_seq ?_
      refine rg ?_
      refine st (v := (I s12.2)) (rv_move rfl) ?_
      refine st (v := (I s4.2)) (rv_move rfl) ?_
      refine st (v := (B (s12.2 != s4.2))) (rv_neq (a := s12.2) (b := s4.2) rfl rfl) ?_
      refine w_end ?_
      refine q_then ?_
      refine cd_cond (s12.2 != s4.2) rfl (fun hb18 => ?_) (fun hb18 => ?_)
      ·replace h := bif_t hb18 h
       obtain ⟨x19, hx20, h'⟩ := bind_some h
       clear h
       have h := h'; clear h'
       obtain ⟨b22, o23, hi21, -⟩ := (H.ro 0 rfl).ix hx20
       obtain ⟨_, ⟨_, _, rfl, rfl, ⟨_, _, rfl, ⟨_, rfl, hR28⟩, rfl⟩⟩, hl24, hc25⟩ := ((H.ro 0 rfl).at hx20 hi21).cells
       obtain ⟨a26, c27, rfl⟩ := hR28.isSl
       replace H := H.add (d := Ch.ro 0 (Sl a26 x19.2.1 c27) x19.2.1) hR28 (fun _ h => h)
       clear hR28
       obtain ⟨x29, hx30, h'⟩ := bind_some h
       clear h
       have h := h'; clear h'
       obtain ⟨b32, o33, hi31, -⟩ := (H.ro 1 rfl).ix hx30
       obtain ⟨v37, hc38, hR36⟩ := ((H.ro 1 rfl).at hx30 hi31).snd.fst.slice
       obtain ⟨a34, c35, rfl⟩ := hR36.isSl
       replace H := H.add (d := Ch.ro 0 (Sl a34 x29.2.1 c35) x29.2.1) hR36 (fun _ h => h)
       clear hR36
       obtain ⟨r39, hx40, h'⟩ := bind_some h
       clear h
       have h := h'; clear h'
       have hc41 := c_spec_hit (ax_0_1 := a26) (cx_0_1 := c27) (aat_2 := a34) (cat_2 := c35) hx40
       have Hs := H
       refine rg2 (σ := σ13) (Nm := Unit) 13 [11] [[false], [true]] [[(0, 0), (1, 1)], [(0, 0)], [(0, 0)], [(0, 0)], [(0, 0)], [(0, 0)], [(0, 0)], [(0, 0)], [(0, 0)], [(0, 0)], [(0, 0)], [(0, 1)], [(0, 0), (1, 1)]] 1 [fun _ => fun σm => Hp S0 σ0 σm [Ch.ro 0 (Sl a34 x29.2.1 c35) x29.2.1, Ch.ro 0 (Sl a26 x19.2.1 c27) x19.2.1, Ch.ro 0 (Sl alist_0 list_0 clist_0) list_0, Ch.own n0 n0 (Sl a6 s4.1 c7) s4.1, Ch.own n0 n0 (Sl a14 s12.1 c15) s12.1] ∧ Md (cov []) σ13 σm, fun _ => fun σm => Hp S0 σ0 σm [Ch.ro 0 (Sl a34 x29.2.1 c35) x29.2.1, Ch.ro 0 (Sl a26 x19.2.1 c27) x19.2.1, Ch.ro 0 (Sl alist_0 list_0 clist_0) list_0, Ch.own n0 n0 (Sl a6 s4.1 c7) s4.1, Ch.own n0 n0 (Sl a14 s12.1 c15) s12.1] ∧ Md (cov []) σ13 σm] [fun _ => (Sl a14 s12.1 c15), fun _ => (Sl alist_0 list_0 clist_0), fun _ => (I s12.2), fun _ => (pt b22 o23), fun _ => (.agg #[(I x19.1), (Sl a26 x19.2.1 c27), (I x19.2.2)]), fun _ => (I kind_1), fun _ => (Sl alist_0 list_0 clist_0), fun _ => (I s4.2), fun _ => (pt b32 o33), fun _ => (pt b32 (o33 + 1)), fun _ => (Sl a34 x29.2.1 c35), fun _ => (.agg #[(I r39.1), (I r39.2)]), fun _ => (I many_2)] () (by kernel_rfl) (by kernel_rfl) ?_ ?_ ?_
       ·intro σm m0
        exact ⟨H.grow (m0.mono fun _ h => h.elim), m0⟩
       ·refine ac rfl (by
          intro k _nm ρ σm hJ hoff hdep
          have e9 := look_off (N := 64) (hoff 9 rfl) rfl
          exact dp_v (v := (Sl a14 s12.1 c15)) wn (rv_move e9) rfl hJ) ?_
        refine ac rfl (by
          intro k _nm ρ σm hJ hoff hdep
          have e0 := look_off (N := 64) (hoff 0 rfl) rfl
          exact dp_v (v := (Sl alist_0 list_0 clist_0)) wn (rv_move e0) rfl hJ) ?_
        refine ac rfl (by
          intro k _nm ρ σm hJ hoff hdep
          have e10 := look_off (N := 64) (hoff 10 rfl) rfl
          exact dp_v (v := (I s12.2)) wn (rv_move e10) rfl hJ) ?_
        refine ac rfl (by
          intro k _nm ρ σm hJ hoff hdep
          have e31 := hdep 1 rfl rfl 31 rfl
          have e32 := hdep 2 rfl rfl 32 rfl
          exact dp_v (v := (pt b22 o23)) wn (rv_ix Try.underlying23 ti32 e31 e32 hi21) rfl hJ) ?_
        refine all_cons (by
          refine ⟨?_, ?_⟩
          ·intro _nm ρ σm hJ hoff hdep
           have e33 := hdep 3 rfl rfl 33 rfl
           obtain ⟨H, m⟩ := id hJ
           replace hc25 := fun j hj => (Hs.ro 2 rfl).hmd hx20 hi21 (k := j) (Nat.lt_of_lt_of_eq hj hl24) (hc25 j hj) m
           exact dp_v (v := (.agg #[(I x19.1), (Sl a26 x19.2.1 c27), (I x19.2.2)])) wn (rv_load Try.underlying32 rfl ti32 e33 hl24 hc25) rfl hJ
          trivial) ?_
        refine ac rfl (by
          intro k _nm ρ σm hJ hoff hdep
          have e1 := look_off (N := 64) (hoff 1 rfl) rfl
          exact dp_v (v := (I kind_1)) wn (rv_move e1) rfl hJ) ?_
        refine ac rfl (by
          intro k _nm ρ σm hJ hoff hdep
          have e0 := look_off (N := 64) (hoff 0 rfl) rfl
          exact dp_v (v := (Sl alist_0 list_0 clist_0)) wn (rv_move e0) rfl hJ) ?_
        refine ac rfl (by
          intro k _nm ρ σm hJ hoff hdep
          have e8 := look_off (N := 64) (hoff 8 rfl) rfl
          exact dp_v (v := (I s4.2)) wn (rv_move e8) rfl hJ) ?_
        refine ac rfl (by
          intro k _nm ρ σm hJ hoff hdep
          have e36 := hdep 6 rfl rfl 36 rfl
          have e37 := hdep 7 rfl rfl 37 rfl
          exact dp_v (v := (pt b32 o33)) wn (rv_ix Try.underlying23 ti32 e36 e37 hi31) rfl hJ) ?_
        refine ac rfl (by
          intro k _nm ρ σm hJ hoff hdep
          have e38 := hdep 8 rfl rfl 38 rfl
          exact dp_v (v := (pt b32 (o33 + 1))) wn (rv_fieldAddr (off := 1) (ft := 30) Try.underlying32 rfl ti30 rfl e38) rfl hJ) ?_
        refine all_cons (by
          refine ⟨?_, ?_⟩
          ·intro _nm ρ σm hJ hoff hdep
           have e39 := hdep 9 rfl rfl 39 rfl
           obtain ⟨H, m⟩ := id hJ
           replace hc38 := (Hs.ro 2 rfl).hmd hx30 hi31 (k := 1) (by decide) hc38 m
           exact dp_v (v := (Sl a34 x29.2.1 c35)) wn (rv_load1 Try.underlying30 rfl e39 hc38) rfl hJ
          trivial) ?_
        refine all_cons (by
          refine ⟨?_, ?_⟩
          ·intro _nm ρ σm hJ hoff hdep
           have e34 : look 64 ρ 34 = (.agg #[(I x19.1), (Sl a26 x19.2.1 c27), (I x19.2.2)]) := hdep 4 rfl rfl 34 rfl
           have e35 : look 64 ρ 35 = (I kind_1) := hdep 5 rfl rfl 35 rfl
           have e40 : look 64 ρ 40 = (Sl a34 x29.2.1 c35) := hdep 10 rfl rfl 40 rfl
           obtain ⟨H, m⟩ := id hJ
           refine dp_cx wn (cx_call hc41 (ent_f hc41.fn (by show [look 64 ρ 34, look 64 ρ 35, look 64 ρ 40] = _; rw [e34, e35, e40])) hn0 (show Hp S0 σ0 _ ([Ch.ro 0 (Sl a26 x19.2.1 c27) x19.2.1, Ch.ro 0 (Sl a34 x29.2.1 c35) x29.2.1] ++ [Ch.ro 0 (Sl a34 x29.2.1 c35) x29.2.1, Ch.ro 0 (Sl a26 x19.2.1 c27) x19.2.1, Ch.ro 0 (Sl alist_0 list_0 clist_0) list_0, Ch.own n0 n0 (Sl a6 s4.1 c7) s4.1, Ch.own n0 n0 (Sl a14 s12.1 c15) s12.1]) from (H.sel' [1, 0, 0, 1, 2, 3, 4] rfl rfl))) ?_
           rintro _ σq ⟨_, ⟨rfl, rfl⟩, H2, m2⟩
           exact ⟨_, (), rfl, rfl, ⟨H2.sel' [0, 1, 2, 3, 4] rfl rfl, m.comp0 (m2.mono (fun i h => by simp [cov, Ch.ro] at h))⟩, stab [0, 1, 2, 3, 4, 5, 6, 7, 8, 9, 10, 12] (by kernel_rfl) ⟨rfl, rfl, rfl, rfl, rfl, rfl, rfl, rfl, rfl, rfl, rfl, rfl, trivial⟩⟩
          trivial) ?_
        refine ac rfl (by
          intro k _nm ρ σm hJ hoff hdep
          have e2 := look_off (N := 64) (hoff 2 rfl) rfl
          exact dp_v (v := (I many_2)) wn (rv_move e2) rfl hJ) ?_
        exact all_nil
       ·intro _nm ρ σ42 hJ hoff hrel
        have e0 := look_off (N := 64) (hoff 0 rfl) rfl
        have e1 := look_off (N := 64) (hoff 1 rfl) rfl
        have e2 := look_off (N := 64) (hoff 2 rfl) rfl
        have e7 := look_off (N := 64) (hoff 7 rfl) rfl
        have e8 := look_off (N := 64) (hoff 8 rfl) rfl
        have e10 := look_off (N := 64) (hoff 10 rfl) rfl
        have e30 := hrel 0 rfl 30 rfl
        have e41 := hrel 11 rfl 41 rfl
        have e42 := hrel 12 rfl 42 rfl
        obtain ⟨H, -⟩ := (show Hp S0 σ0 σ42 [Ch.ro 0 (Sl a34 x29.2.1 c35) x29.2.1, Ch.ro 0 (Sl a26 x19.2.1 c27) x19.2.1, Ch.ro 0 (Sl alist_0 list_0 clist_0) list_0, Ch.own n0 n0 (Sl a6 s4.1 c7) s4.1, Ch.own n0 n0 (Sl a14 s12.1 c15) s12.1] ∧ Md (cov []) σ13 σ42 from hJ)
        clear hJ Hs
        rw [fr_lookL (L := [(0, (Sl alist_0 list_0 clist_0)), (1, (I kind_1)), (2, (I many_2)), (7, (Sl a6 s4.1 c7)), (8, (I s4.2)), (10, (I s12.2)), (30, (Sl a14 s12.1 c15)), (41, (.agg #[(I r39.1), (I r39.2)])), (42, (I many_2))]) ⟨e0, e1, e2, e7, e8, e10, e30, e41, e42, trivial⟩]
        clear hoff hrel e0 e1 e2 e7 e8 e10 e30 e41 e42
        obtain ⟨σ43, hw44, H, -⟩ := H.pub 4 rfl (Nat.le_refl _)
        rw [← hw44]; clear hw44
        replace H := H.roLow 0 0 rfl (Nat.zero_le _)
        obtain ⟨r45, hx46, h'⟩ := bind_some h
        clear h
        have h := h'; clear h'
        have hc47 := c_spec_addHit (alist_0 := a14) (clist_0 := c15) hx46
        refine st_call (cx_call hc47 (ent_f hc47.fn rfl) hn0 (show Hp S0 σ0 _ ([Ch.ro 0 (Sl a14 s12.1 c15) s12.1] ++ [Ch.ro 0 (Sl a14 s12.1 c15) s12.1, Ch.ro n0 (Sl a14 s12.1 c15) s12.1, Ch.ro 0 (Sl a34 x29.2.1 c35) x29.2.1, Ch.ro 0 (Sl a26 x19.2.1 c27) x19.2.1, Ch.ro 0 (Sl alist_0 list_0 clist_0) list_0, Ch.own n0 n0 (Sl a6 s4.1 c7) s4.1]) from (H.sel' [0, 0, 1, 2, 3, 4, 5] rfl rfl))) wn ?_
        rintro _ σ50 ⟨_, ⟨a48, c49, rfl, rfl⟩, H, -⟩
        replace H : Hp S0 σ0 σ50 [Ch.own n0 n0 (Sl a48 r45 c49) r45, Ch.ro 0 (Sl a14 s12.1 c15) s12.1, Ch.ro n0 (Sl a14 s12.1 c15) s12.1, Ch.ro 0 (Sl a34 x29.2.1 c35) x29.2.1, Ch.ro 0 (Sl a26 x19.2.1 c27) x19.2.1, Ch.ro 0 (Sl alist_0 list_0 clist_0) list_0, Ch.own n0 n0 (Sl a6 s4.1 c7) s4.1] := H
        refine st (v := (Sl a48 r45 c49)) (rv_assign rfl) ?_
        refine w_end ?_
        refine q_blk ?_
        obtain rfl := Option.some.inj h
        exact ⟨rfl, _, σ50, a48, c49, fr_join ⟨rfl, rfl, rfl, rfl, rfl, rfl, rfl, trivial⟩, rfl, H.sel' [5, 6, 0] rfl rfl⟩
      ·replace h := bif_f hb18 h
       refine c_skip ?_
       refine q_blk ?_
       obtain rfl := Option.some.inj h
       exact ⟨rfl, _, σ13, a14, c15, fr_join ⟨rfl, rfl, rfl, rfl, rfl, rfl, rfl, trivial⟩, rfl, H.sel' [0, 1, 2] rfl rfl⟩
     ·clear hj
      have h := h'
      clear h' H
      rintro e a w ⟨rfl, ρ, σ51, a52, c53, rfl, rfl, H⟩
      refine q_then ?_
      refine rg ?_
      refine st (v := (I s12.2)) (rv_move rfl) ?_
      refine st (v := (I (w64 (s12.2 + 1)))) (rv_add (a := s12.2) (b := 1) rfl rfl) ?_
      refine st (v := (I (w64 (s12.2 + 1)))) (rv_assign rfl) ?_
      refine w_end ?_
      refine q_then ?_
      obtain rfl := Option.some.inj h
      exact ⟨_, rfl, _, σ51, a52, c53, fr_join ⟨rfl, rfl, rfl, rfl, rfl, rfl, rfl, trivial⟩, rfl, H.sel' [0, 1, 2] rfl rfl⟩
    ·replace h := bif_f hb16 h
     refine c_exit ?_
     refine q_then_x ?_
     refine q_then_x ?_
     refine q_blk_hit ?_
     obtain rfl := Option.some.inj h
     obtain rfl := hres _ rfl
     exact ⟨rfl, _, σ13, a14, c15, fr_join ⟨rfl, rfl, rfl, rfl, rfl, rfl, trivial⟩, rfl, H.sel' [0, 1, 2] rfl rfl⟩
   ·clear hj
    have h := h'
    clear h' H
    rintro e a w ⟨rfl, ρ, σ54, a55, c56, rfl, rfl, H⟩
    refine q_then ?_
    refine c_seq ?_
    refine rg ?_
    refine st_ex (ex_buildSlice (el := n0) (xs := ([] : List Int)) (ps := []) (cs := []) H hn0 Try.underlying30 ti3 rfl rfl (by kernel_rfl) (.nil) rfl) wn ?_
    rintro _ σ58 ⟨b57, rfl, H, -⟩
    refine st (v := (Sl (some ⟨b57, 0, none⟩) ([] : List Int) 0)) (rv_assign rfl) ?_
    refine w_end ?_
    refine q_then ?_
    refine c_seq ?_
    refine c_seq ?_
    refine rg ?_
    refine st (v := (I 0)) (rv_assign rfl) ?_
    refine w_end ?_
    refine q_then ?_
    obtain ⟨o59, hj, h'⟩ := bind_some h
    clear h
    refine c_cut (fun e a w => e = .normal ∧ ∃ (ρ : Nat → Value) (σ : St) (aj1 : Option Addr) (cj2 : Nat), a = fr 64 (updL ρ [(0, (Sl alist_0 list_0 clist_0)), (1, (I kind_1)), (2, (I many_2)), (7, (Sl a6 s4.1 c7)), (8, (I s4.2)), (11, (Sl aj1 o59 cj2))]) ∧ w = σ.w ∧ Hp S0 σ0 σ [Ch.ro 0 (Sl alist_0 list_0 clist_0) list_0, Ch.own n0 n0 (Sl a6 s4.1 c7) s4.1, Ch.own n0 n0 (Sl aj1 o59 cj2) o59]) ?_ ?_
    ·clear h'
     rename _ = some o59 => h
     refine c_blk ?_
     refine wp_loopM _ h (fun s60 a w => ∃ (ρ : Nat → Value) (σ : St) (aj1 : Option Addr) (cj2 : Nat), a = fr 64 (updL ρ [(0, (Sl alist_0 list_0 clist_0)), (1, (I kind_1)), (2, (I many_2)), (7, (Sl a6 s4.1 c7)), (8, (I s4.2)), (9, (Sl a55 o11 c56)), (11, (Sl aj1 s60.1 cj2)), (12, (I s60.2))]) ∧ w = σ.w ∧ Hp S0 σ0 σ [Ch.ro 0 (Sl alist_0 list_0 clist_0) list_0, Ch.own n0 n0 (Sl a6 s4.1 c7) s4.1, Ch.own n0 n0 (Sl a55 o11 c56) o11, Ch.own n0 n0 (Sl aj1 s60.1 cj2) s60.1]) ⟨_, σ58, (some ⟨b57, 0, none⟩), 0, fr_join ⟨rfl, rfl, rfl, rfl, rfl, rfl, rfl, rfl, trivial⟩, rfl, H.sel' [1, 2, 3, 0] rfl rfl⟩ ?_
     clear h H
     rintro s60 a w o ⟨ρ, σ61, a62, c63, rfl, rfl, H⟩ h hres
     refine c_seq ?_
     refine c_seq ?_
     refine rg ?_
     refine st (v := (I s60.2)) (rv_move rfl) ?_
     refine st (v := (Sl a55 o11 c56)) (rv_move rfl) ?_
     refine st (v := (I (o11.length : Int))) (rv_len Try.underlying56 rfl) ?_
     refine st (v := (B (decide (s60.2 < (o11.length : Int))))) (rv_lss (a := s60.2) (b := (o11.length : Int)) rfl rfl) ?_
     refine w_end ?_
     refine q_then ?_
     refine cd_cond (decide (s60.2 < (o11.length : Int))) rfl (fun hb64 => ?_) (fun hb64 => ?_)
     ·replace h := bif_t hb64 h
      refine c_skip ?_
      refine q_then ?_
      refine c_seq ?_
      refine c_blk ?_
      refine rg ?_
      refine st (v := (Sl a62 s60.1 c63)) (rv_move rfl) ?_
      refine st (v := (Sl a55 o11 c56)) (rv_move rfl) ?_
      refine st (v := (I s60.2)) (rv_move rfl) ?_
      obtain ⟨x65, hx66, h'⟩ := bind_some h
      clear h
      have h := h'; clear h'
      obtain ⟨b68, o69, hi67, -⟩ := (H.own 2 rfl).ix hx66
      refine st (v := (pt b68 o69)) (rv_ix Try.underlying56 ti91 rfl rfl hi67) ?_
      refine st (v := (pt b68 (o69 + 0))) (rv_fieldAddr (off := 0) (ft := 3) Try.underlying91 rfl ti3 rfl rfl) ?_
      have hc70 := ((H.own 2 rfl).at hx66 hi67).fst.int
      refine st (v := (I x65.1)) (rv_load1 Try.underlying3 rfl rfl hc70) ?_
      refine st_ex (ex_buildSlice (el := n0) (xs := ([x65.1] : List Int)) (ps := [(0, (I x65.1))]) (cs := [(I x65.1)]) H hn0 Try.underlying30 ti3 rfl rfl (by kernel_rfl) (.cons (c := [(I x65.1)]) rfl (.nil)) rfl) wn ?_
      rintro _ σ72 ⟨b71, rfl, H, -⟩
      obtain ⟨xs73, hx74, h'⟩ := bind_some h
      clear h
      have h := h'; clear h'
      refine st_ex (ex_append H (i := 4) rfl Try.underlying30 Try.underlying30 ti3 rfl rfl (by decide) (H.own 0 rfl).rd hx74 hn0 rfl rfl) wn ?_
      rintro _ σ77 ⟨a75, c76, rfl, H, -⟩
      refine st (v := (Sl a75 xs73 c76)) (rv_assign rfl) ?_
      refine w_end ?_
      refine q_blk ?_
      refine q_then ?_
      refine rg ?_
      refine st (v := (I s60.2)) (rv_move rfl) ?_
      refine st (v := (I (w64 (s60.2 + 1)))) (rv_add (a := s60.2) (b := 1) rfl rfl) ?_
      refine st (v := (I (w64 (s60.2 + 1)))) (rv_assign rfl) ?_
      refine w_end ?_
      refine q_then ?_
      obtain rfl := Option.some.inj h
      exact ⟨_, rfl, _, σ77, a75, c76, fr_join ⟨rfl, rfl, rfl, rfl, rfl, rfl, rfl, rfl, trivial⟩, rfl, H.sel' [2, 3, 4, 0] rfl rfl⟩
     ·replace h := bif_f hb64 h
      refine c_exit ?_
      refine q_then_x ?_
      refine q_then_x ?_
      refine q_blk_hit ?_
      obtain rfl := Option.some.inj h
      obtain rfl := hres _ rfl
      exact ⟨rfl, _, σ61, a62, c63, fr_join ⟨rfl, rfl, rfl, rfl, rfl, rfl, trivial⟩, rfl, H.sel' [0, 1, 3] rfl rfl⟩
    ·clear hj
     have h := h'
     clear h' H
     rintro e a w ⟨rfl, ρ, σ78, a79, c80, rfl, rfl, H⟩
     refine q_then ?_
     refine rg ?_
     refine st (v := (Sl a6 s4.1 c7)) (rv_move rfl) ?_
     refine st (v := (Sl a79 o59 c80)) (rv_move rfl) ?_
     obtain ⟨σ81, hw82, H, -⟩ := H.pub 2 rfl (Nat.le_refl _)
     rw [← hw82]; clear hw82
     refine st_ex (ex_buildSlice (el := n0) (xs := ([o59] : List (List Int))) (ps := [(0, (Sl a79 o59 c80))]) (cs := [(Sl a79 o59 c80)]) H hn0 Try.underlying26 ti30 rfl rfl (by kernel_rfl) (.cons (c := [(Sl a79 o59 c80)]) ⟨_, rfl, (H.ro 0 rfl)⟩ (.nil)) rfl) wn ?_
     rintro _ σ84 ⟨b83, rfl, H, -⟩
     obtain ⟨xs85, hx86, h'⟩ := bind_some h
     clear h
     have h := h'; clear h'
     refine st_ex (ex_append H (i := 3) rfl Try.underlying26 Try.underlying26 ti30 rfl rfl (by decide) (H.own 0 rfl).rd hx86 hn0 rfl rfl) wn ?_
     rintro _ σ89 ⟨a87, c88, rfl, H, -⟩
     refine st (v := (Sl a87 xs85 c88)) (rv_assign rfl) ?_
     refine w_end ?_
     refine q_blk ?_
     refine q_then ?_
     refine rg ?_
     refine st (v := (I s4.2)) (rv_move rfl) ?_
     refine st (v := (I (w64 (s4.2 + 1)))) (rv_add (a := s4.2) (b := 1) rfl rfl) ?_
     refine st (v := (I (w64 (s4.2 + 1)))) (rv_assign rfl) ?_
     refine w_end ?_
     refine q_then ?_
     obtain rfl := Option.some.inj h
     exact ⟨_, rfl, _, σ89, a87, c88, fr_join ⟨rfl, rfl, rfl, rfl, rfl, trivial⟩, rfl, H.sel' [3, 0] rfl rfl⟩
  ·replace h := bif_f hb8 h
   refine c_exit ?_
   refine q_then_x ?_
   refine q_then_x ?_
   refine q_blk_hit ?_
   obtain rfl := Option.some.inj h
   obtain rfl := hres _ rfl
   exact ⟨rfl, _, σ5, a6, c7, fr_join ⟨rfl, trivial⟩, rfl, H.sel' [1] rfl rfl⟩
 ·clear hj
  have h := h'
  clear h' H
  rintro e a w ⟨rfl, ρ, σ90, a91, c92, rfl, rfl, H⟩
  refine q_then ?_
  refine c_seq ?_
  refine rg ?_
  refine st (v := (Sl a91 o3 c92)) (rv_move rfl) ?_
  refine st (v := (Sl a91 o3 c92)) (rv_assign rfl) ?_
  refine w_end ?_
  refine q_then ?_
  refine c_ret ?_
  obtain rfl := Option.some.inj h
  exact fin_ret (v := (Sl a91 o3 c92)) (results_ok Try.results53 (res_tmp (v := (Sl a91 o3 c92)) rfl res_nil) rfl) ⟨a91, c92, rfl, rfl⟩ (H.sel' [0] rfl rfl)

theorem c_spec_isIn {list_0 : List Int} {n_1 : Int} {alist_0 : Option Addr} {clist_0 : Nat} {r : Bool} (h : M.spec_isIn list_0 n_1 = some r) :
    Cal2 Try.prog 54 [(Sl alist_0 list_0 clist_0), (I n_1)] [Ch.ro 0 (Sl alist_0 list_0 clist_0) list_0] (fun n0 v L => v = (B r) ∧ L = []) := by
 refine cal2 (n := 18) Try.func54 rfl rfl rfl rfl ?_
 intro S0 σ0 n0 hn0 H
 unfold M.spec_isIn at h
 refine c_seq ?_
 refine rg ?_
 refine st (v := (B false)) (rv_assign rfl) ?_
 refine w_end ?_
 refine q_then ?_
 refine c_seq ?_
 refine c_seq ?_
 refine rg ?_
 refine st (v := (I 0)) (rv_assign rfl) ?_
 refine w_end ?_
 refine q_then ?_
 obtain ⟨o1, hj, h'⟩ := bind_some h
 clear h
 refine c_cut (fun e a w => (∃ t, o1 = (.inl t) ∧ e = .normal ∧ ∃ (ρ : Nat → Value) (σ : St), a = fr 18 (updL ρ []) ∧ w = σ.w ∧ Hp S0 σ0 σ []) ∨ (∃ t, o1 = (.inr t) ∧ e = .ret ∧ ∃ (ρ : Nat → Value) (σ : St), a = fr 18 (updL ρ [(4, (B t))]) ∧ w = σ.w ∧ Hp S0 σ0 σ [])) ?_ ?_
 ·clear h'
  rename _ = some o1 => h
  refine c_blk ?_
  refine wp_loopM _ h (fun s2 a w => ∃ (ρ : Nat → Value) (σ : St), a = fr 18 (updL ρ [(0, (Sl alist_0 list_0 clist_0)), (1, (I n_1)), (5, (I s2))]) ∧ w = σ.w ∧ Hp S0 σ0 σ [Ch.ro 0 (Sl alist_0 list_0 clist_0) list_0]) ⟨_, σ0, fr_join ⟨rfl, rfl, rfl, trivial⟩, rfl, H.sel' [0] rfl rfl⟩ ?_
  clear h H
  rintro s2 a w o ⟨ρ, σ3, rfl, rfl, H⟩ h hres
  refine c_seq ?_
  refine c_seq ?_
  refine rg ?_
  refine st (v := (I s2)) (rv_move rfl) ?_
  refine st (v := (Sl alist_0 list_0 clist_0)) (rv_move rfl) ?_
  refine st (v := (I (list_0.length : Int))) (rv_len Try.underlying30 rfl) ?_
  refine st (v := (B (decide (s2 < (list_0.length : Int))))) (rv_lss (a := s2) (b := (list_0.length : Int)) rfl rfl) ?_
  refine w_end ?_
  refine q_then ?_
  refine cd_cond (decide (s2 < (list_0.length : Int))) rfl (fun hb4 => ?_) (fun hb4 => ?_)
  ·replace h := bif_t hb4 h
   refine c_skip ?_
   refine q_then ?_
   refine c_seq ?_
   refine c_blk ?_
   refine c_seq ?_
   refine rg ?_
   refine st (v := (Sl alist_0 list_0 clist_0)) (rv_move rfl) ?_
   refine st (v := (I s2)) (rv_move rfl) ?_
   obtain ⟨x5, hx6, h'⟩ := bind_some h
   clear h
   have h := h'; clear h'
   obtain ⟨b8, o9, hi7, -⟩ := (H.ro 0 rfl).ix hx6
   refine st (v := (pt b8 o9)) (rv_ix Try.underlying30 ti3 rfl rfl hi7) ?_
   have hc10 := ((H.ro 0 rfl).at hx6 hi7).int
   refine st (v := (I x5)) (rv_load1 Try.underlying3 rfl rfl hc10) ?_
   refine st (v := (I n_1)) (rv_move rfl) ?_
   refine st (v := (B (x5 == n_1))) (rv_eql (a := x5) (b := n_1) rfl rfl) ?_
   refine w_end ?_
   refine q_then ?_
   refine cd_cond (x5 == n_1) rfl (fun hb11 => ?_) (fun hb11 => ?_)
   ·replace h := bif_t hb11 h
    refine c_seq ?_
    refine rg ?_
    refine st (v := (B true)) (rv_assign rfl) ?_
    refine w_end ?_
    refine q_then ?_
    refine c_ret ?_
    refine q_blk_r ?_
    refine q_then_r ?_
    refine q_then_r ?_
    refine q_blk_r ?_
    obtain rfl := Option.some.inj h
    obtain rfl := hres _ rfl
    exact .inr (⟨_, rfl, rfl, _, σ3, fr_join ⟨rfl, trivial⟩, rfl, H.sel' [] rfl rfl⟩)
   ·replace h := bif_f hb11 h
    refine c_skip ?_
    refine q_blk ?_
    refine q_then ?_
    refine rg ?_
    refine st (v := (I s2)) (rv_move rfl) ?_
    refine st (v := (I (w64 (s2 + 1)))) (rv_add (a := s2) (b := 1) rfl rfl) ?_
    refine st (v := (I (w64 (s2 + 1)))) (rv_assign rfl) ?_
    refine w_end ?_
    refine q_then ?_
    obtain rfl := Option.some.inj h
    exact ⟨_, rfl, _, σ3, fr_join ⟨rfl, rfl, rfl, trivial⟩, rfl, H.sel' [0] rfl rfl⟩
  ·replace h := bif_f hb4 h
   refine c_exit ?_
   refine q_then_x ?_
   refine q_then_x ?_
   refine q_blk_hit ?_
   obtain rfl := Option.some.inj h
   obtain rfl := hres _ rfl
   exact .inl ⟨_, rfl, rfl, _, σ3, fr_join trivial, rfl, H.sel' [] rfl rfl⟩
 ·clear hj
  have h := h'
  clear h' H
  rintro e a w (⟨t12, rfl, rfl, ρ, σ13, rfl, rfl, H⟩ | ⟨t14, rfl, rfl, ρ, σ15, rfl, rfl, H⟩)
  ·replace h := selim_l h
   refine q_then ?_
   refine c_seq ?_
   refine rg ?_
   refine st (v := (B false)) (rv_assign rfl) ?_
   refine w_end ?_
   refine q_then ?_
   refine c_ret ?_
   obtain rfl := Option.some.inj h
   exact fin_ret (v := (B false)) (results_ok Try.results54 (res_tmp (v := (B false)) rfl res_nil) rfl) ⟨rfl, rfl⟩ (H.sel' [] rfl rfl)
  ·replace h := selim_r h
   refine q_then_r ?_
   obtain rfl := Option.some.inj h
   exact fin_ret (v := (B t14)) (results_ok Try.results54 (res_tmp (v := (B t14)) rfl res_nil) rfl) ⟨rfl, rfl⟩ (H.sel' [] rfl rfl)

theorem c_spec_MutualLinks {list_0 : List (Int × (List Int) × Int)} {kind_1 : Int} {many_2 : Int} {alist_0 : Option Addr} {clist_0 : Nat} {r : (List (List Int))} (h : M.spec_MutualLinks list_0 kind_1 many_2 = some r) :
    Cal2 Try.prog 15 [(Sl alist_0 list_0 clist_0), (I kind_1), (I many_2)] [Ch.ro 0 (Sl alist_0 list_0 clist_0) list_0] (fun n0 v L => ∃ (az1 : Option Addr), ∃ (cz2 : Nat), v = (Sl az1 r cz2) ∧ L = [Ch.own n0 n0 (Sl az1 r cz2) r]) := by
 refine cal2 (n := 80) Try.func15 rfl rfl rfl rfl ?_
 intro S0 σ0 n0 hn0 H
 unfold M.spec_MutualLinks at h
 refine c_seq ?_
 refine rg ?_
 refine st (v := (.slice none 0 0)) (rv_assign rfl) ?_
 refine w_end ?_
 refine q_then ?_
 refine c_seq ?_
 refine rg ?_
 refine st_ex (ex_buildSlice (el := n0) (xs := ([] : List (List Int))) (ps := []) (cs := []) H hn0 Try.underlying26 ti30 rfl rfl (by kernel_rfl) (.nil) rfl) wn ?_
 rintro _ σ2 ⟨b1, rfl, H, -⟩
 refine st (v := (Sl (some ⟨b1, 0, none⟩) ([] : List (List Int)) 0)) (rv_assign rfl) ?_
 refine w_end ?_
 refine q_then ?_
 refine c_seq ?_
 refine c_seq ?_
 obtain ⟨o3, hj, h'⟩ := bind_some h
 clear h
 refine c_cut (fun e a w => e = .normal ∧ ∃ (ρ : Nat → Value) (σ : St), a = fr 80 (updL ρ [(0, (Sl alist_0 list_0 clist_0)), (1, (I kind_1)), (2, (I many_2)), (7, (Sl (some ⟨b1, 0, none⟩) ([] : List (List Int)) 0)), (24, (B o3))]) ∧ w = σ.w ∧ Hp S0 σ0 σ [Ch.ro 0 (Sl alist_0 list_0 clist_0) list_0, Ch.own n0 n0 (Sl (some ⟨b1, 0, none⟩) ([] : List (List Int)) 0) ([] : List (List Int))]) ?_ ?_
 ·clear h'
  rename _ = some o3 => h
  refine rg ?_
  refine st (v := (Sl alist_0 list_0 clist_0)) (rv_move rfl) ?_
  obtain ⟨r4, hx5, h'⟩ := bind_some h
  clear h
  have h := h'; clear h'
  have hc6 := c_spec_validStore (alist_0 := alist_0) (clist_0 := clist_0) hx5
  refine st_call (cx_call hc6 (ent_f hc6.fn rfl) hn0 (show Hp S0 σ0 _ ([Ch.ro 0 (Sl alist_0 list_0 clist_0) list_0] ++ [Ch.own n0 n0 (Sl (some ⟨b1, 0, none⟩) ([] : List (List Int)) 0) ([] : List (List Int)), Ch.ro 0 (Sl alist_0 list_0 clist_0) list_0]) from (H.sel' [1, 0, 1] rfl rfl))) wn ?_
  rintro _ σ7 ⟨_, ⟨rfl, rfl⟩, H, -⟩
  replace H : Hp S0 σ0 σ7 [Ch.own n0 n0 (Sl (some ⟨b1, 0, none⟩) ([] : List (List Int)) 0) ([] : List (List Int)), Ch.ro 0 (Sl alist_0 list_0 clist_0) list_0] := H
  refine st (v := (B (!r4))) (rv_not rfl) ?_
  refine st (v := (B (!r4))) (rv_move rfl) ?_
  rcases Bool.eq_false_or_eq_true (!r4) with hb8 | hb8
  ·replace h := bif_t hb8 h
   refine st_skip (congrArg some hb8) ?_
   refine st_skip (congrArg some hb8) ?_
   refine st_skip (congrArg some hb8) ?_
   refine st (v := (B true)) (rv_pick_t (congrArg B hb8) rfl) ?_
   refine st (v := (B true)) (rv_move rfl) ?_
   refine st_skip rfl ?_
   refine st_skip rfl ?_
   refine st_skip rfl ?_
   refine st (v := (B true)) (rv_pick_t rfl rfl) ?_
   refine w_end ?_
   obtain rfl := Option.some.inj h
   exact ⟨rfl, _, σ7, fr_join ⟨rfl, rfl, rfl, rfl, rfl, trivial⟩, rfl, H.sel' [1, 0] rfl rfl⟩
  ·replace h := bif_f hb8 h
   refine st_g (v := (I kind_1)) (congrArg some hb8) (rv_move rfl) ?_
   obtain ⟨r9, hx10, h'⟩ := bind_some h
   clear h
   have h := h'; clear h'
   have hc11 := c_spec_validKind hx10
   refine st_call (cx_call hc11 (ent_f hc11.fn rfl) hn0 (show Hp S0 σ0 _ ([] ++ [Ch.own n0 n0 (Sl (some ⟨b1, 0, none⟩) ([] : List (List Int)) 0) ([] : List (List Int)), Ch.ro 0 (Sl alist_0 list_0 clist_0) list_0]) from (H.sel' [0, 1] rfl rfl))) (wanted_yes rfl (by exact (congrArg some hb8))) ?_
   rintro _ σ12 ⟨_, ⟨rfl, rfl⟩, H, -⟩
   replace H : Hp S0 σ0 σ12 [Ch.own n0 n0 (Sl (some ⟨b1, 0, none⟩) ([] : List (List Int)) 0) ([] : List (List Int)), Ch.ro 0 (Sl alist_0 list_0 clist_0) list_0] := H
   refine st_g (v := (B (!r9))) (congrArg some hb8) (rv_not rfl) ?_
   refine st (v := (B (!r9))) (rv_pick_f (congrArg B hb8) rfl) ?_
   refine st (v := (B (!r9))) (rv_move rfl) ?_
   rcases Bool.eq_false_or_eq_true (!r9) with hb13 | hb13
   ·replace h := bif_t hb13 h
    refine st_skip (congrArg some hb13) ?_
    refine st_skip (congrArg some hb13) ?_
    refine st_skip (congrArg some hb13) ?_
    refine st (v := (B true)) (rv_pick_t (congrArg B hb13) rfl) ?_
    refine w_end ?_
    obtain rfl := Option.some.inj h
    exact ⟨rfl, _, σ12, fr_join ⟨rfl, rfl, rfl, rfl, rfl, trivial⟩, rfl, H.sel' [1, 0] rfl rfl⟩
   ·replace h := bif_f hb13 h
    refine st_g (v := (I many_2)) (congrArg some hb13) (rv_move rfl) ?_
    obtain ⟨r14, hx15, h'⟩ := bind_some h
    clear h
    have h := h'; clear h'
    have hc16 := c_spec_inRange hx15
    refine st_call (cx_call hc16 (ent_f hc16.fn rfl) hn0 (show Hp S0 σ0 _ ([] ++ [Ch.own n0 n0 (Sl (some ⟨b1, 0, none⟩) ([] : List (List Int)) 0) ([] : List (List Int)), Ch.ro 0 (Sl alist_0 list_0 clist_0) list_0]) from (H.sel' [0, 1] rfl rfl))) (wanted_yes rfl (by exact (congrArg some hb13))) ?_
    rintro _ σ17 ⟨_, ⟨rfl, rfl⟩, H, -⟩
    replace H : Hp S0 σ0 σ17 [Ch.own n0 n0 (Sl (some ⟨b1, 0, none⟩) ([] : List (List Int)) 0) ([] : List (List Int)), Ch.ro 0 (Sl alist_0 list_0 clist_0) list_0] := H
    refine st_g (v := (B (!r14))) (congrArg some hb13) (rv_not rfl) ?_
    refine st (v := (B (!r14))) (rv_pick_f (congrArg B hb13) rfl) ?_
    refine w_end ?_
    obtain rfl := Option.some.inj h
    exact ⟨rfl, _, σ17, fr_join ⟨rfl, rfl, rfl, rfl, rfl, trivial⟩, rfl, H.sel' [1, 0] rfl rfl⟩
 ·clear hj
  have h := h'
  clear h' H
  rintro e a w ⟨rfl, ρ, σ18, rfl, rfl, H⟩
  refine q_then ?_
  refine cd_cond o3 rfl (fun hb19 => ?_) (fun hb19 => ?_)
  ·replace h := bif_t hb19 h
   refine c_seq ?_
   refine rg ?_
   refine st (v := (.slice none 0 0)) (rv_assign rfl) ?_
   refine w_end ?_
   refine q_then ?_
   refine c_ret ?_
   refine q_then_r ?_
   replace H := H.nilOwn (List Int) n0 n0
   obtain rfl := Option.some.inj h
   exact fin_ret (v := (.slice none 0 0)) (results_ok Try.results15 (res_tmp (v := (.slice none 0 0)) rfl res_nil) rfl) ⟨none, 0, rfl, rfl⟩ (H.sel' [0] rfl rfl)
  ·replace h := bif_f hb19 h
   refine c_skip ?_
   refine q_then ?_
   refine c_seq ?_
   refine rg ?_
   refine st (v := (Sl alist_0 list_0 clist_0)) (rv_move rfl) ?_
   refine st (v := (I kind_1)) (rv_move rfl) ?_
   refine st (v := (I many_2)) (rv_move rfl) ?_
   obtain ⟨r20, hx21, h'⟩ := bind_some h
   clear h
   have h := h'; clear h'
   have hc22 := c_spec_links (alist_0 := alist_0) (clist_0 := clist_0) hx21
   refine st_call (cx_call hc22 (ent_f hc22.fn rfl) hn0 (show Hp S0 σ0 _ ([Ch.ro 0 (Sl alist_0 list_0 clist_0) list_0] ++ [Ch.ro 0 (Sl alist_0 list_0 clist_0) list_0, Ch.own n0 n0 (Sl (some ⟨b1, 0, none⟩) ([] : List (List Int)) 0) ([] : List (List Int))]) from (H.sel' [0, 0, 1] rfl rfl))) wn ?_
   rintro _ σ25 ⟨_, ⟨a23, c24, rfl, rfl⟩, H, -⟩
   replace H : Hp S0 σ0 σ25 [Ch.own n0 n0 (Sl a23 r20 c24) r20, Ch.ro 0 (Sl alist_0 list_0 clist_0) list_0, Ch.own n0 n0 (Sl (some ⟨b1, 0, none⟩) ([] : List (List Int)) 0) ([] : List (List Int))] := H
   refine st (v := (Sl a23 r20 c24)) (rv_assign rfl) ?_
   refine w_end ?_
   refine q_then ?_
   refine c_seq ?_
   refine c_seq ?_
   refine rg ?_
   refine st (v := (I 0)) (rv_assign rfl) ?_
   refine w_end ?_
   refine q_then ?_
   obtain ⟨o26, hj, h'⟩ := bind_some h
   clear h
   refine c_cut (fun e a w => e = .normal ∧ ∃ (ρ : Nat → Value) (σ : St) (aj1 : Option Addr) (cj2 : Nat), a = fr 80 (updL ρ [(7, (Sl aj1 o26 cj2))]) ∧ w = σ.w ∧ Hp S0 σ0 σ [Ch.own n0 n0 (Sl aj1 o26 cj2) o26]) ?_ ?_
   ·clear h'
    rename _ = some o26 => h
    refine c_blk ?_
    refine wp_loopM _ h (fun s27 a w => ∃ (ρ : Nat → Value) (σ : St) (aj1 : Option Addr) (cj2 : Nat), a = fr 80 (updL ρ [(0, (Sl alist_0 list_0 clist_0)), (7, (Sl aj1 s27.1 cj2)), (8, (Sl a23 r20 c24)), (9, (I s27.2))]) ∧ w = σ.w ∧ Hp S0 σ0 σ [Ch.ro 0 (Sl alist_0 list_0 clist_0) list_0, Ch.own n0 n0 (Sl aj1 s27.1 cj2) s27.1, Ch.own n0 n0 (Sl a23 r20 c24) r20]) ⟨_, σ25, (some ⟨b1, 0, none⟩), 0, fr_join ⟨rfl, rfl, rfl, rfl, trivial⟩, rfl, H.sel' [1, 2, 0] rfl rfl⟩ ?_
    clear h H
    rintro s27 a w o ⟨ρ, σ28, a29, c30, rfl, rfl, H⟩ h hres
    refine c_seq ?_
    refine c_seq ?_
    refine rg ?_
    refine st (v := (I s27.2)) (rv_move rfl) ?_
    refine st (v := (Sl alist_0 list_0 clist_0)) (rv_move rfl) ?_
    refine st (v := (I (list_0.length : Int))) (rv_len Try.underlying23 rfl) ?_
    refine st (v := (B (decide (s27.2 < (list_0.length : Int))))) (rv_lss (a := s27.2) (b := (list_0.length : Int)) rfl rfl) ?_
    refine w_end ?_
    refine q_then ?_
    refine cd_cond (decide (s27.2 < (list_0.length : Int))) rfl (fun hb31 => ?_) (fun hb31 => ?_)
    ·replace h := bif_t hb31 h
     refine c_skip ?_
     refine q_then ?_
     refine c_seq ?_
     refine c_blk ?_
     refine c_seq ?_
     refine rg ?_
     refine st (v := (I s27.2)) (rv_move rfl) ?_
     refine st (v := (I (w64 (s27.2 + 1)))) (rv_add (a := s27.2) (b := 1) rfl rfl) ?_
     refine st (v := (I (w64 (s27.2 + 1)))) (rv_assign rfl) ?_
     refine w_end ?_
     refine q_then ?_
     obtain ⟨o32, hj, h'⟩ := bind_some h
     clear h
     refine c_cut (fun e a w => e = .normal ∧ ∃ (ρ : Nat → Value) (σ : St) (aj1 : Option Addr) (cj2 : Nat), a = fr 80 (updL ρ [(0, (Sl alist_0 list_0 clist_0)), (7, (Sl aj1 o32 cj2)), (8, (Sl a23 r20 c24)), (9, (I s27.2))]) ∧ w = σ.w ∧ Hp S0 σ0 σ [Ch.ro 0 (Sl alist_0 list_0 clist_0) list_0, Ch.own n0 n0 (Sl aj1 o32 cj2) o32, Ch.own n0 n0 (Sl a23 r20 c24) r20]) ?_ ?_
     ·clear h'
      rename _ = some o32 => h
      refine c_blk ?_
      refine wp_loopM _ h (fun s33 a w => ∃ (ρ : Nat → Value) (σ : St) (aj1 : Option Addr) (cj2 : Nat), a = fr 80 (updL ρ [(0, (Sl alist_0 list_0 clist_0)), (7, (Sl aj1 s33.1 cj2)), (8, (Sl a23 r20 c24)), (9, (I s27.2)), (10, (I s33.2))]) ∧ w = σ.w ∧ Hp S0 σ0 σ [Ch.ro 0 (Sl alist_0 list_0 clist_0) list_0, Ch.own n0 n0 (Sl aj1 s33.1 cj2) s33.1, Ch.own n0 n0 (Sl a23 r20 c24) r20]) ⟨_, σ28, a29, c30, fr_join ⟨rfl, rfl, rfl, rfl, rfl, trivial⟩, rfl, H.sel' [0, 1, 2] rfl rfl⟩ ?_
      clear h H
      rintro s33 a w o ⟨ρ, σ34, a35, c36, rfl, rfl, H⟩ h hres
      refine c_seq ?_
      refine c_seq ?_
      refine rg ?_
      refine st (v := (I s33.2)) (rv_move rfl) ?_
      refine st (v := (Sl alist_0 list_0 clist_0)) (rv_move rfl) ?_
      refine st (v := (I (list_0.length : Int))) (rv_len Try.underlying23 rfl) ?_
      refine st (v := (B (decide (s33.2 < (list_0.length : Int))))) (rv_lss (a := s33.2) (b := (list_0.length : Int)) rfl rfl) ?_
      refine w_end ?_
      refine q_then ?_
      refine cd_cond (decide (s33.2 < (list_0.length : Int))) rfl (fun hb37 => ?_) (fun hb37 => ?_)
      ·replace h := bif_t hb37 h
       refine c_skip ?_
       refine q_then ?_
       refine c_seq ?_
       obtain ⟨o38, hj, h'⟩ := bind_some h
       clear h
       refine c_cut (fun e a w => e = .normal ∧ ∃ (ρ : Nat → Value) (σ : St) (aj1 : Option Addr) (cj2 : Nat), a = fr 80 (updL ρ [(0, (Sl alist_0 list_0 clist_0)), (7, (Sl aj1 o38 cj2)), (8, (Sl a23 r20 c24)), (9, (I s27.2)), (10, (I s33.2))]) ∧ w = σ.w ∧ Hp S0 σ0 σ [Ch.ro 0 (Sl alist_0 list_0 clist_0) list_0, Ch.own n0 n0 (Sl aj1 o38 cj2) o38, Ch.own n0 n0 (Sl a23 r20 c24) r20]) ?_ ?_
       ·clear h'
        rename _ = some o38 => h
        refine c_blk ?_
        refine c_seq ?_
        obtain ⟨o39, hj, h'⟩ := bind_some h
        clear h
        refine c_cut (fun e a w => e = .normal ∧ ∃ (ρ : Nat → Value) (σ : St), a = fr 80 (updL ρ [(0, (Sl alist_0 list_0 clist_0)), (7, (Sl a35 s33.1 c36)), (8, (Sl a23 r20 c24)), (9, (I s27.2)), (10, (I s33.2)), (64, (B o39))]) ∧ w = σ.w ∧ Hp S0 σ0 σ [Ch.ro 0 (Sl alist_0 list_0 clist_0) list_0, Ch.own n0 n0 (Sl a35 s33.1 c36) s33.1, Ch.own n0 n0 (Sl a23 r20 c24) r20]) ?_ ?_
        ·clear h'
         rename _ = some o39 => h
         obtain ⟨x40, hx41, h'⟩ := bind_some h
         clear h
         have h := h'; clear h'
         obtain ⟨b43, o44, hi42, -⟩ := (H.own 2 rfl).ix hx41
         obtain ⟨v48, hc49, hR47⟩ := ((H.own 2 rfl).at hx41 hi42).slice
         obtain ⟨a45, c46, rfl⟩ := hR47.isSl
         replace H := H.add (d := Ch.ro n0 (Sl a45 x40 c46) x40) hR47 (fun _ h => h)
         clear hR47
         obtain ⟨x50, hx51, h'⟩ := bind_some h
         clear h
         have h := h'; clear h'
         obtain ⟨b53, o54, hi52, -⟩ := (H.ro 1 rfl).ix hx51
         have hc55 := ((H.ro 1 rfl).at hx51 hi52).fst.int
         replace H := H.roLow 0 0 rfl (Nat.zero_le _)
         obtain ⟨r56, hx57, h'⟩ := bind_some h
         clear h
         have h := h'; clear h'
         have hc58 := c_spec_isIn (alist_0 := a45) (clist_0 := c46) hx57
         rcases Bool.eq_false_or_eq_true r56 with hb59 | hb59
         ·replace h := bif_t hb59 h
          obtain ⟨x60, hx61, h'⟩ := bind_some h
          clear h
          have h := h'; clear h'
          obtain ⟨b63, o64, hi62, -⟩ := (H.own 4 rfl).ix hx61
          obtain ⟨v68, hc69, hR67⟩ := ((H.own 4 rfl).at hx61 hi62).slice
          obtain ⟨a65, c66, rfl⟩ := hR67.isSl
          replace H := H.add (d := Ch.ro n0 (Sl a65 x60 c66) x60) hR67 (fun _ h => h)
          clear hR67
          obtain ⟨x70, hx71, h'⟩ := bind_some h
          clear h
          have h := h'; clear h'
          obtain ⟨b73, o74, hi72, -⟩ := (H.ro 3 rfl).ix hx71
          have hc75 := ((H.ro 3 rfl).at hx71 hi72).fst.int
          have Hs := H
          refine rg2 (σ := σ34) (Nm := Unit) 20 [9] [[false], [true]] [[(0, 0)], [(0, 0)], [(0, 0)], [(0, 0)], [(0, 0)], [(0, 0)], [(0, 0)], [(0, 0)], [(0, 0)], [(0, 1)], [(1, 1)], [(1, 1)], [(1, 1)], [(1, 1)], [(1, 1)], [(1, 1)], [(1, 1)], [(1, 1)], [(1, 1)], [(1, 1)]] 1 [fun _ => fun σm => Hp S0 σ0 σm [Ch.ro n0 (Sl a65 x60 c66) x60, Ch.ro 0 (Sl a45 x40 c46) x40, Ch.ro n0 (Sl a45 x40 c46) x40, Ch.ro 0 (Sl alist_0 list_0 clist_0) list_0, Ch.own n0 n0 (Sl a35 s33.1 c36) s33.1, Ch.own n0 n0 (Sl a23 r20 c24) r20] ∧ Md (cov []) σ34 σm, fun _ => fun σm => Hp S0 σ0 σm [Ch.ro n0 (Sl a65 x60 c66) x60, Ch.ro 0 (Sl a45 x40 c46) x40, Ch.ro n0 (Sl a45 x40 c46) x40, Ch.ro 0 (Sl alist_0 list_0 clist_0) list_0, Ch.own n0 n0 (Sl a35 s33.1 c36) s33.1, Ch.own n0 n0 (Sl a23 r20 c24) r20] ∧ Md (cov []) σ34 σm] [fun _ => (Sl a23 r20 c24), fun _ => (I s27.2), fun _ => (pt b43 o44), fun _ => (Sl a45 x40 c46), fun _ => (Sl alist_0 list_0 clist_0), fun _ => (I s33.2), fun _ => (pt b53 o54), fun _ => (pt b53 (o54 + 0)), fun _ => (I x50.1), fun _ => (B r56), fun _ => (B r56), fun _ => (Sl a23 r20 c24), fun _ => (I s33.2), fun _ => (pt b63 o64), fun _ => (Sl a65 x60 c66), fun _ => (Sl alist_0 list_0 clist_0), fun _ => (I s27.2), fun _ => (pt b73 o74), fun _ => (pt b73 (o74 + 0)), fun _ => (I x70.1)] () (by kernel_rfl) (by kernel_rfl) ?_ ?_ ?_
          ·intro σm m0
           exact ⟨H.grow (m0.mono fun _ h => h.elim), m0⟩
          ·refine ac rfl (by
             intro k _nm ρ σm hJ hoff hdep
             have e8 := look_off (N := 80) (hoff 8 rfl) rfl
             exact dp_v (v := (Sl a23 r20 c24)) wn (rv_move e8) rfl hJ) ?_
           refine ac rfl (by
             intro k _nm ρ σm hJ hoff hdep
             have e9 := look_off (N := 80) (hoff 9 rfl) rfl
             exact dp_v (v := (I s27.2)) wn (rv_move e9) rfl hJ) ?_
           refine ac rfl (by
             intro k _nm ρ σm hJ hoff hdep
             have e43 := hdep 0 rfl rfl 43 rfl
             have e44 := hdep 1 rfl rfl 44 rfl
             exact dp_v (v := (pt b43 o44)) wn (rv_ix Try.underlying26 ti30 e43 e44 hi42) rfl hJ) ?_
           refine all_cons (by
             refine ⟨?_, ?_⟩
             ·intro _nm ρ σm hJ hoff hdep
              have e45 := hdep 2 rfl rfl 45 rfl
              obtain ⟨H, m⟩ := id hJ
              replace hc49 := m.hcell hc49 nocov
              exact dp_v (v := (Sl a45 x40 c46)) wn (rv_load1 Try.underlying30 rfl e45 hc49) rfl hJ
             trivial) ?_
           refine ac rfl (by
             intro k _nm ρ σm hJ hoff hdep
             have e0 := look_off (N := 80) (hoff 0 rfl) rfl
             exact dp_v (v := (Sl alist_0 list_0 clist_0)) wn (rv_move e0) rfl hJ) ?_
           refine ac rfl (by
             intro k _nm ρ σm hJ hoff hdep
             have e10 := look_off (N := 80) (hoff 10 rfl) rfl
             exact dp_v (v := (I s33.2)) wn (rv_move e10) rfl hJ) ?_
           refine ac rfl (by
             intro k _nm ρ σm hJ hoff hdep
             have e47 := hdep 4 rfl rfl 47 rfl
             have e48 := hdep 5 rfl rfl 48 rfl
             exact dp_v (v := (pt b53 o54)) wn (rv_ix Try.underlying23 ti32 e47 e48 hi52) rfl hJ) ?_
           refine ac rfl (by
             intro k _nm ρ σm hJ hoff hdep
             have e49 := hdep 6 rfl rfl 49 rfl
             exact dp_v (v := (pt b53 (o54 + 0))) wn (rv_fieldAddr (off := 0) (ft := 3) Try.underlying32 rfl ti3 rfl e49) rfl hJ) ?_
           refine all_cons (by
             refine ⟨?_, ?_⟩
             ·intro _nm ρ σm hJ hoff hdep
              have e50 := hdep 7 rfl rfl 50 rfl
              obtain ⟨H, m⟩ := id hJ
              replace hc55 := (Hs.ro 3 rfl).hmd hx51 hi52 (k := 0) (by decide) hc55 m
              exact dp_v (v := (I x50.1)) wn (rv_load1 Try.underlying3 rfl e50 hc55) rfl hJ
             trivial) ?_
           refine all_cons (by
             refine ⟨?_, ?_⟩
             ·intro _nm ρ σm hJ hoff hdep
              have e46 : look 80 ρ 46 = (Sl a45 x40 c46) := hdep 3 rfl rfl 46 rfl
              have e51 : look 80 ρ 51 = (I x50.1) := hdep 8 rfl rfl 51 rfl
              obtain ⟨H, m⟩ := id hJ
              refine dp_cx wn (cx_call hc58 (ent_f hc58.fn (by show [look 80 ρ 46, look 80 ρ 51] = _; rw [e46, e51])) hn0 (show Hp S0 σ0 _ ([Ch.ro 0 (Sl a45 x40 c46) x40] ++ [Ch.ro n0 (Sl a65 x60 c66) x60, Ch.ro 0 (Sl a45 x40 c46) x40, Ch.ro n0 (Sl a45 x40 c46) x40, Ch.ro 0 (Sl alist_0 list_0 clist_0) list_0, Ch.own n0 n0 (Sl a35 s33.1 c36) s33.1, Ch.own n0 n0 (Sl a23 r20 c24) r20]) from (H.sel' [1, 0, 1, 2, 3, 4, 5] rfl rfl))) ?_
              rintro _ σq ⟨_, ⟨rfl, rfl⟩, H2, m2⟩
              exact ⟨_, (), rfl, rfl, ⟨H2.sel' [0, 1, 2, 3, 4, 5] rfl rfl, m.comp0 (m2.mono (fun i h => by simp [cov, Ch.ro] at h))⟩, stab [0, 1, 2, 3, 4, 5, 6, 7, 8] (by kernel_rfl) ⟨rfl, rfl, rfl, rfl, rfl, rfl, rfl, rfl, rfl, trivial⟩⟩
             trivial) ?_
           refine ac rfl (by
             intro k _nm ρ σm hJ hoff hdep
             have e52 := hdep 9 rfl rfl 52 rfl
             exact dp_v (v := (B r56)) wn (rv_move e52) rfl hJ) ?_
           refine ac rfl (by
             intro k _nm ρ σm hJ hoff hdep
             have e8 := look_off (N := 80) (hoff 8 rfl) rfl
             have e53 := hdep 10 rfl rfl 53 rfl
             exact dp_v (v := (Sl a23 r20 c24)) (wanted_yes rfl (yv_of rfl (e53.trans (congrArg B hb59)))) (rv_move e8) rfl hJ) ?_
           refine ac rfl (by
             intro k _nm ρ σm hJ hoff hdep
             have e10 := look_off (N := 80) (hoff 10 rfl) rfl
             have e53 := hdep 10 rfl rfl 53 rfl
             exact dp_v (v := (I s33.2)) (wanted_yes rfl (yv_of rfl (e53.trans (congrArg B hb59)))) (rv_move e10) rfl hJ) ?_
           refine ac rfl (by
             intro k _nm ρ σm hJ hoff hdep
             have e54 := hdep 11 rfl rfl 54 rfl
             have e55 := hdep 12 rfl rfl 55 rfl
             have e53 := hdep 10 rfl rfl 53 rfl
             exact dp_v (v := (pt b63 o64)) (wanted_yes rfl (yv_of rfl (e53.trans (congrArg B hb59)))) (rv_ix Try.underlying26 ti30 e54 e55 hi62) rfl hJ) ?_
           refine all_cons (by
             refine ⟨?_, ?_⟩
             ·intro _nm ρ σm hJ hoff hdep
              have e56 := hdep 13 rfl rfl 56 rfl
              have e53 := hdep 10 rfl rfl 53 rfl
              obtain ⟨H, m⟩ := id hJ
              replace hc69 := m.hcell hc69 nocov
              exact dp_v (v := (Sl a65 x60 c66)) (wanted_yes rfl (yv_of rfl (e53.trans (congrArg B hb59)))) (rv_load1 Try.underlying30 rfl e56 hc69) rfl hJ
             trivial) ?_
           refine ac rfl (by
             intro k _nm ρ σm hJ hoff hdep
             have e0 := look_off (N := 80) (hoff 0 rfl) rfl
             have e53 := hdep 10 rfl rfl 53 rfl
             exact dp_v (v := (Sl alist_0 list_0 clist_0)) (wanted_yes rfl (yv_of rfl (e53.trans (congrArg B hb59)))) (rv_move e0) rfl hJ) ?_
           refine ac rfl (by
             intro k _nm ρ σm hJ hoff hdep
             have e9 := look_off (N := 80) (hoff 9 rfl) rfl
             have e53 := hdep 10 rfl rfl 53 rfl
             exact dp_v (v := (I s27.2)) (wanted_yes rfl (yv_of rfl (e53.trans (congrArg B hb59)))) (rv_move e9) rfl hJ) ?_
           refine ac rfl (by
             intro k _nm ρ σm hJ hoff hdep
             have e58 := hdep 15 rfl rfl 58 rfl
             have e59 := hdep 16 rfl rfl 59 rfl
             have e53 := hdep 10 rfl rfl 53 rfl
             exact dp_v (v := (pt b73 o74)) (wanted_yes rfl (yv_of rfl (e53.trans (congrArg B hb59)))) (rv_ix Try.underlying23 ti32 e58 e59 hi72) rfl hJ) ?_
           refine ac rfl (by
             intro k _nm ρ σm hJ hoff hdep
             have e60 := hdep 17 rfl rfl 60 rfl
             have e53 := hdep 10 rfl rfl 53 rfl
             exact dp_v (v := (pt b73 (o74 + 0))) (wanted_yes rfl (yv_of rfl (e53.trans (congrArg B hb59)))) (rv_fieldAddr (off := 0) (ft := 3) Try.underlying32 rfl ti3 rfl e60) rfl hJ) ?_
           refine all_cons (by
             refine ⟨?_, ?_⟩
             ·intro _nm ρ σm hJ hoff hdep
              have e61 := hdep 18 rfl rfl 61 rfl
              have e53 := hdep 10 rfl rfl 53 rfl
              obtain ⟨H, m⟩ := id hJ
              replace hc75 := (Hs.ro 3 rfl).hmd hx71 hi72 (k := 0) (by decide) hc75 m
              exact dp_v (v := (I x70.1)) (wanted_yes rfl (yv_of rfl (e53.trans (congrArg B hb59)))) (rv_load1 Try.underlying3 rfl e61 hc75) rfl hJ
             trivial) ?_
           exact all_nil
          ·intro _nm ρ σ76 hJ hoff hrel
           have e0 := look_off (N := 80) (hoff 0 rfl) rfl
           have e7 := look_off (N := 80) (hoff 7 rfl) rfl
           have e8 := look_off (N := 80) (hoff 8 rfl) rfl
           have e9 := look_off (N := 80) (hoff 9 rfl) rfl
           have e10 := look_off (N := 80) (hoff 10 rfl) rfl
           have e53 := hrel 10 rfl 53 rfl
           have e57 := hrel 14 rfl 57 rfl
           have e62 := hrel 19 rfl 62 rfl
           obtain ⟨H, -⟩ := (show Hp S0 σ0 σ76 [Ch.ro n0 (Sl a65 x60 c66) x60, Ch.ro 0 (Sl a45 x40 c46) x40, Ch.ro n0 (Sl a45 x40 c46) x40, Ch.ro 0 (Sl alist_0 list_0 clist_0) list_0, Ch.own n0 n0 (Sl a35 s33.1 c36) s33.1, Ch.own n0 n0 (Sl a23 r20 c24) r20] ∧ Md (cov []) σ34 σ76 from hJ)
           clear hJ Hs
           rw [fr_lookL (L := [(0, (Sl alist_0 list_0 clist_0)), (7, (Sl a35 s33.1 c36)), (8, (Sl a23 r20 c24)), (9, (I s27.2)), (10, (I s33.2)), (53, (B r56)), (57, (Sl a65 x60 c66)), (62, (I x70.1))]) ⟨e0, e7, e8, e9, e10, e53, e57, e62, trivial⟩]
           clear hoff hrel e0 e7 e8 e9 e10 e53 e57 e62
           replace H := H.roLow 0 0 rfl (Nat.zero_le _)
           obtain ⟨r77, hx78, h'⟩ := bind_some h
           clear h
           have h := h'; clear h'
           have hc79 := c_spec_isIn (alist_0 := a65) (clist_0 := c66) hx78
           refine st_call (cx_call hc79 (ent_f hc79.fn rfl) hn0 (show Hp S0 σ0 _ ([Ch.ro 0 (Sl a65 x60 c66) x60] ++ [Ch.ro 0 (Sl a65 x60 c66) x60, Ch.ro n0 (Sl a65 x60 c66) x60, Ch.ro 0 (Sl a45 x40 c46) x40, Ch.ro n0 (Sl a45 x40 c46) x40, Ch.ro 0 (Sl alist_0 list_0 clist_0) list_0, Ch.own n0 n0 (Sl a35 s33.1 c36) s33.1, Ch.own n0 n0 (Sl a23 r20 c24) r20]) from (H.sel' [0, 0, 1, 2, 3, 4, 5, 6] rfl rfl))) (wanted_yes rfl (by exact (congrArg some hb59))) ?_
           rintro _ σ80 ⟨_, ⟨rfl, rfl⟩, H, -⟩
           replace H : Hp S0 σ0 σ80 [Ch.ro 0 (Sl a65 x60 c66) x60, Ch.ro n0 (Sl a65 x60 c66) x60, Ch.ro 0 (Sl a45 x40 c46) x40, Ch.ro n0 (Sl a45 x40 c46) x40, Ch.ro 0 (Sl alist_0 list_0 clist_0) list_0, Ch.own n0 n0 (Sl a35 s33.1 c36) s33.1, Ch.own n0 n0 (Sl a23 r20 c24) r20] := H
           refine st (v := (B r77)) (rv_pick_t (congrArg B hb59) rfl) ?_
           refine w_end ?_
           obtain rfl := Option.some.inj h
           exact ⟨rfl, _, σ80, fr_join ⟨rfl, rfl, rfl, rfl, rfl, rfl, trivial⟩, rfl, H.sel' [4, 5, 6] rfl rfl⟩
         ·replace h := bif_f hb59 h
          have Hs := H
          refine rg2 (σ := σ34) (Nm := Unit) 20 [9] [[false], [true]] [[(0, 0)], [(0, 0)], [(0, 0)], [(0, 0)], [(0, 0)], [(0, 0)], [(0, 0)], [(0, 0)], [(0, 0)], [(0, 1)], [(1, 1)], [(1, 1)], [(1, 1)], [(1, 1)], [(1, 1)], [(1, 1)], [(1, 1)], [(1, 1)], [(1, 1)], [(1, 1)]] 1 [fun _ => fun σm => Hp S0 σ0 σm [Ch.ro 0 (Sl a45 x40 c46) x40, Ch.ro n0 (Sl a45 x40 c46) x40, Ch.ro 0 (Sl alist_0 list_0 clist_0) list_0, Ch.own n0 n0 (Sl a35 s33.1 c36) s33.1, Ch.own n0 n0 (Sl a23 r20 c24) r20] ∧ Md (cov []) σ34 σm, fun _ => fun σm => Hp S0 σ0 σm [Ch.ro 0 (Sl a45 x40 c46) x40, Ch.ro n0 (Sl a45 x40 c46) x40, Ch.ro 0 (Sl alist_0 list_0 clist_0) list_0, Ch.own n0 n0 (Sl a35 s33.1 c36) s33.1, Ch.own n0 n0 (Sl a23 r20 c24) r20] ∧ Md (cov []) σ34 σm] [fun _ => (Sl a23 r20 c24), fun _ => (I s27.2), fun _ => (pt b43 o44), fun _ => (Sl a45 x40 c46), fun _ => (Sl alist_0 list_0 clist_0), fun _ => (I s33.2), fun _ => (pt b53 o54), fun _ => (pt b53 (o54 + 0)), fun _ => (I x50.1), fun _ => (B r56), fun _ => (B r56), fun _ => undef, fun _ => undef, fun _ => undef, fun _ => undef, fun _ => undef, fun _ => undef, fun _ => undef, fun _ => undef, fun _ => undef] () (by kernel_rfl) (by kernel_rfl) ?_ ?_ ?_
          ·intro σm m0
           exact ⟨H.grow (m0.mono fun _ h => h.elim), m0⟩
          ·refine ac rfl (by
             intro k _nm ρ σm hJ hoff hdep
             have e8 := look_off (N := 80) (hoff 8 rfl) rfl
             exact dp_v (v := (Sl a23 r20 c24)) wn (rv_move e8) rfl hJ) ?_
           refine ac rfl (by
             intro k _nm ρ σm hJ hoff hdep
             have e9 := look_off (N := 80) (hoff 9 rfl) rfl
             exact dp_v (v := (I s27.2)) wn (rv_move e9) rfl hJ) ?_
           refine ac rfl (by
             intro k _nm ρ σm hJ hoff hdep
             have e43 := hdep 0 rfl rfl 43 rfl
             have e44 := hdep 1 rfl rfl 44 rfl
             exact dp_v (v := (pt b43 o44)) wn (rv_ix Try.underlying26 ti30 e43 e44 hi42) rfl hJ) ?_
           refine all_cons (by
             refine ⟨?_, ?_⟩
             ·intro _nm ρ σm hJ hoff hdep
              have e45 := hdep 2 rfl rfl 45 rfl
              obtain ⟨H, m⟩ := id hJ
              replace hc49 := m.hcell hc49 nocov
              exact dp_v (v := (Sl a45 x40 c46)) wn (rv_load1 Try.underlying30 rfl e45 hc49) rfl hJ
             trivial) ?_
           refine ac rfl (by
             intro k _nm ρ σm hJ hoff hdep
             have e0 := look_off (N := 80) (hoff 0 rfl) rfl
             exact dp_v (v := (Sl alist_0 list_0 clist_0)) wn (rv_move e0) rfl hJ) ?_
           refine ac rfl (by
             intro k _nm ρ σm hJ hoff hdep
             have e10 := look_off (N := 80) (hoff 10 rfl) rfl
             exact dp_v (v := (I s33.2)) wn (rv_move e10) rfl hJ) ?_
           refine ac rfl (by
             intro k _nm ρ σm hJ hoff hdep
             have e47 := hdep 4 rfl rfl 47 rfl
             have e48 := hdep 5 rfl rfl 48 rfl
             exact dp_v (v := (pt b53 o54)) wn (rv_ix Try.underlying23 ti32 e47 e48 hi52) rfl hJ) ?_
           refine ac rfl (by
             intro k _nm ρ σm hJ hoff hdep
             have e49 := hdep 6 rfl rfl 49 rfl
             exact dp_v (v := (pt b53 (o54 + 0))) wn (rv_fieldAddr (off := 0) (ft := 3) Try.underlying32 rfl ti3 rfl e49) rfl hJ) ?_
           refine all_cons (by
             refine ⟨?_, ?_⟩
             ·intro _nm ρ σm hJ hoff hdep
              have e50 := hdep 7 rfl rfl 50 rfl
              obtain ⟨H, m⟩ := id hJ
              replace hc55 := (Hs.ro 2 rfl).hmd hx51 hi52 (k := 0) (by decide) hc55 m
              exact dp_v (v := (I x50.1)) wn (rv_load1 Try.underlying3 rfl e50 hc55) rfl hJ
             trivial) ?_
           refine all_cons (by
             refine ⟨?_, ?_⟩
             ·intro _nm ρ σm hJ hoff hdep
              have e46 : look 80 ρ 46 = (Sl a45 x40 c46) := hdep 3 rfl rfl 46 rfl
              have e51 : look 80 ρ 51 = (I x50.1) := hdep 8 rfl rfl 51 rfl
              obtain ⟨H, m⟩ := id hJ
              refine dp_cx wn (cx_call hc58 (ent_f hc58.fn (by show [look 80 ρ 46, look 80 ρ 51] = _; rw [e46, e51])) hn0 (show Hp S0 σ0 _ ([Ch.ro 0 (Sl a45 x40 c46) x40] ++ [Ch.ro 0 (Sl a45 x40 c46) x40, Ch.ro n0 (Sl a45 x40 c46) x40, Ch.ro 0 (Sl alist_0 list_0 clist_0) list_0, Ch.own n0 n0 (Sl a35 s33.1 c36) s33.1, Ch.own n0 n0 (Sl a23 r20 c24) r20]) from (H.sel' [0, 0, 1, 2, 3, 4] rfl rfl))) ?_
              rintro _ σq ⟨_, ⟨rfl, rfl⟩, H2, m2⟩
              exact ⟨_, (), rfl, rfl, ⟨H2.sel' [0, 1, 2, 3, 4] rfl rfl, m.comp0 (m2.mono (fun i h => by simp [cov, Ch.ro] at h))⟩, stab [0, 1, 2, 3, 4, 5, 6, 7, 8] (by kernel_rfl) ⟨rfl, rfl, rfl, rfl, rfl, rfl, rfl, rfl, rfl, trivial⟩⟩
             trivial) ?_
           refine ac rfl (by
             intro k _nm ρ σm hJ hoff hdep
             have e52 := hdep 9 rfl rfl 52 rfl
             exact dp_v (v := (B r56)) wn (rv_move e52) rfl hJ) ?_
           refine ac rfl (by
             intro k _nm ρ σm hJ hoff hdep
             have e53 := hdep 10 rfl rfl 53 rfl
             exact dp_skip (wanted_no rfl (yv_of rfl (e53.trans (congrArg B hb59)))) rfl hJ) ?_
           refine ac rfl (by
             intro k _nm ρ σm hJ hoff hdep
             have e53 := hdep 10 rfl rfl 53 rfl
             exact dp_skip (wanted_no rfl (yv_of rfl (e53.trans (congrArg B hb59)))) rfl hJ) ?_
           refine ac rfl (by
             intro k _nm ρ σm hJ hoff hdep
             have e53 := hdep 10 rfl rfl 53 rfl
             exact dp_skip (wanted_no rfl (yv_of rfl (e53.trans (congrArg B hb59)))) rfl hJ) ?_
           refine ac rfl (by
             intro k _nm ρ σm hJ hoff hdep
             have e53 := hdep 10 rfl rfl 53 rfl
             exact dp_skip (wanted_no rfl (yv_of rfl (e53.trans (congrArg B hb59)))) rfl hJ) ?_
           refine ac rfl (by
             intro k _nm ρ σm hJ hoff hdep
             have e53 := hdep 10 rfl rfl 53 rfl
             exact dp_skip (wanted_no rfl (yv_of rfl (e53.trans (congrArg B hb59)))) rfl hJ) ?_
           refine ac rfl (by
             intro k _nm ρ σm hJ hoff hdep
             have e53 := hdep 10 rfl rfl 53 rfl
             exact dp_skip (wanted_no rfl (yv_of rfl (e53.trans (congrArg B hb59)))) rfl hJ) ?_
           refine ac rfl (by
             intro k _nm ρ σm hJ hoff hdep
             have e53 := hdep 10 rfl rfl 53 rfl
             exact dp_skip (wanted_no rfl (yv_of rfl (e53.trans (congrArg B hb59)))) rfl hJ) ?_
           refine ac rfl (by
             intro k _nm ρ σm hJ hoff hdep
             have e53 := hdep 10 rfl rfl 53 rfl
             exact dp_skip (wanted_no rfl (yv_of rfl (e53.trans (congrArg B hb59)))) rfl hJ) ?_
           refine ac rfl (by
             intro k _nm ρ σm hJ hoff hdep
             have e53 := hdep 10 rfl rfl 53 rfl
             exact dp_skip (wanted_no rfl (yv_of rfl (e53.trans (congrArg B hb59)))) rfl hJ) ?_
           exact all_nil
          ·intro _nm ρ σ81 hJ hoff hrel
           have e0 := look_off (N := 80) (hoff 0 rfl) rfl
           have e7 := look_off (N := 80) (hoff 7 rfl) rfl
           have e8 := look_off (N := 80) (hoff 8 rfl) rfl
           have e9 := look_off (N := 80) (hoff 9 rfl) rfl
           have e10 := look_off (N := 80) (hoff 10 rfl) rfl
           have e53 := hrel 10 rfl 53 rfl
           have e57 := hrel 14 rfl 57 rfl
           have e62 := hrel 19 rfl 62 rfl
           obtain ⟨H, -⟩ := (show Hp S0 σ0 σ81 [Ch.ro 0 (Sl a45 x40 c46) x40, Ch.ro n0 (Sl a45 x40 c46) x40, Ch.ro 0 (Sl alist_0 list_0 clist_0) list_0, Ch.own n0 n0 (Sl a35 s33.1 c36) s33.1, Ch.own n0 n0 (Sl a23 r20 c24) r20] ∧ Md (cov []) σ34 σ81 from hJ)
           clear hJ Hs
           rw [fr_lookL (L := [(0, (Sl alist_0 list_0 clist_0)), (7, (Sl a35 s33.1 c36)), (8, (Sl a23 r20 c24)), (9, (I s27.2)), (10, (I s33.2)), (53, (B r56)), (57, undef), (62, undef)]) ⟨e0, e7, e8, e9, e10, e53, e57, e62, trivial⟩]
           clear hoff hrel e0 e7 e8 e9 e10 e53 e57 e62
           refine st_skip (congrArg some hb59) ?_
           refine st (v := (B false)) (rv_pick_f (congrArg B hb59) rfl) ?_
           refine w_end ?_
           obtain rfl := Option.some.inj h
           exact ⟨rfl, _, σ81, fr_join ⟨rfl, rfl, rfl, rfl, rfl, rfl, trivial⟩, rfl, H.sel' [2, 3, 4] rfl rfl⟩
        ·clear hj
         have h := h'
         clear h' H
         rintro e a w ⟨rfl, ρ, σ82, rfl, rfl, H⟩
         refine q_then ?_
         refine cd_cond o39 rfl (fun hb83 => ?_) (fun hb83 => ?_)
         ·replace h := bif_t hb83 h
          obtain ⟨x84, hx85, h'⟩ := bind_some h
          clear h
          have h := h'; clear h'
          obtain ⟨b87, o88, hi86, -⟩ := (H.ro 0 rfl).ix hx85
          have hc89 := ((H.ro 0 rfl).at hx85 hi86).fst.int
          obtain ⟨x90, hx91, h'⟩ := bind_some h
          clear h
          have h := h'; clear h'
          obtain ⟨b93, o94, hi92, -⟩ := (H.ro 0 rfl).ix hx91
          have hc95 := ((H.ro 0 rfl).at hx91 hi92).fst.int
          have Hs := H
          refine rg2 (σ := σ82) (Nm := (Nat) × (Nat)) 13 [11, 12] [[false, false], [true, false], [true, true]] [[(0, 0), (1, 1), (2, 2)], [(0, 0)], [(0, 0)], [(0, 0)], [(0, 0)], [(0, 0)], [(0, 0)], [(0, 0)], [(0, 0)], [(0, 0)], [(0, 0)], [(0, 1)], [(1, 2)]] 2 [fun ((b96, b97) : (Nat) × (Nat)) => fun σm => Hp S0 σ0 σm [Ch.ro 0 (Sl alist_0 list_0 clist_0) list_0, Ch.own n0 n0 (Sl a35 s33.1 c36) s33.1, Ch.own n0 n0 (Sl a23 r20 c24) r20] ∧ Md (cov []) σ82 σm, fun ((b96, b97) : (Nat) × (Nat)) => fun σm => Hp S0 σ0 σm [Ch.ro n0 (Sl (some ⟨b96, 0, none⟩) ([x84.1, x90.1] : List Int) 2) ([x84.1, x90.1] : List Int), Ch.ro 0 (Sl alist_0 list_0 clist_0) list_0, Ch.own n0 n0 (Sl a35 s33.1 c36) s33.1, Ch.own n0 n0 (Sl a23 r20 c24) r20] ∧ Md (fun i => (cov []) i ∨ (fun i => (cov []) i ∨ (fun b => blk (Sl (some ⟨b96, 0, none⟩) ([x84.1, x90.1] : List Int) 2) = some b) i) i) σ82 σm, fun ((b96, b97) : (Nat) × (Nat)) => fun σm => Hp S0 σ0 σm [Ch.own n0 n0 (Sl (some ⟨b97, 0, none⟩) ([([x84.1, x90.1] : List Int)] : List (List Int)) 1) ([([x84.1, x90.1] : List Int)] : List (List Int)), Ch.ro n0 (Sl (some ⟨b96, 0, none⟩) ([x84.1, x90.1] : List Int) 2) ([x84.1, x90.1] : List Int), Ch.ro 0 (Sl alist_0 list_0 clist_0) list_0, Ch.own n0 n0 (Sl a35 s33.1 c36) s33.1, Ch.own n0 n0 (Sl a23 r20 c24) r20] ∧ Md (fun i => (cov []) i ∨ (fun i => (cov []) i ∨ (fun b => blk (Sl (some ⟨b96, 0, none⟩) ([x84.1, x90.1] : List Int) 2) = some b) i) i) σ82 σm] [fun ((b96, b97) : (Nat) × (Nat)) => (Sl a35 s33.1 c36), fun ((b96, b97) : (Nat) × (Nat)) => (Sl alist_0 list_0 clist_0), fun ((b96, b97) : (Nat) × (Nat)) => (I s27.2), fun ((b96, b97) : (Nat) × (Nat)) => (pt b87 o88), fun ((b96, b97) : (Nat) × (Nat)) => (pt b87 (o88 + 0)), fun ((b96, b97) : (Nat) × (Nat)) => (I x84.1), fun ((b96, b97) : (Nat) × (Nat)) => (Sl alist_0 list_0 clist_0), fun ((b96, b97) : (Nat) × (Nat)) => (I s33.2), fun ((b96, b97) : (Nat) × (Nat)) => (pt b93 o94), fun ((b96, b97) : (Nat) × (Nat)) => (pt b93 (o94 + 0)), fun ((b96, b97) : (Nat) × (Nat)) => (I x90.1), fun ((b96, b97) : (Nat) × (Nat)) => (Sl (some ⟨b96, 0, none⟩) ([x84.1, x90.1] : List Int) 2), fun ((b96, b97) : (Nat) × (Nat)) => (Sl (some ⟨b97, 0, none⟩) ([([x84.1, x90.1] : List Int)] : List (List Int)) 1)] (0, 0) (by kernel_rfl) (by kernel_rfl) ?_ ?_ ?_
          ·intro σm m0
           exact ⟨H.grow (m0.mono fun _ h => h.elim), m0⟩
          ·refine ac rfl (by
             intro k; rintro ⟨b96, b97⟩ ρ σm hJ hoff hdep
             have e7 := look_off (N := 80) (hoff 7 rfl) rfl
             exact dp_v (v := (Sl a35 s33.1 c36)) wn (rv_move e7) rfl hJ) ?_
           refine ac rfl (by
             intro k; rintro ⟨b96, b97⟩ ρ σm hJ hoff hdep
             have e0 := look_off (N := 80) (hoff 0 rfl) rfl
             exact dp_v (v := (Sl alist_0 list_0 clist_0)) wn (rv_move e0) rfl hJ) ?_
           refine ac rfl (by
             intro k; rintro ⟨b96, b97⟩ ρ σm hJ hoff hdep
             have e9 := look_off (N := 80) (hoff 9 rfl) rfl
             exact dp_v (v := (I s27.2)) wn (rv_move e9) rfl hJ) ?_
           refine ac rfl (by
             intro k; rintro ⟨b96, b97⟩ ρ σm hJ hoff hdep
             have e66 := hdep 1 rfl rfl 66 rfl
             have e67 := hdep 2 rfl rfl 67 rfl
             exact dp_v (v := (pt b87 o88)) wn (rv_ix Try.underlying23 ti32 e66 e67 hi86) rfl hJ) ?_
           refine ac rfl (by
             intro k; rintro ⟨b96, b97⟩ ρ σm hJ hoff hdep
             have e68 := hdep 3 rfl rfl 68 rfl
             exact dp_v (v := (pt b87 (o88 + 0))) wn (rv_fieldAddr (off := 0) (ft := 3) Try.underlying32 rfl ti3 rfl e68) rfl hJ) ?_
           refine all_cons (by
             refine ⟨?_, ?_⟩
             ·rintro ⟨b96, b97⟩ ρ σm hJ hoff hdep
              have e69 := hdep 4 rfl rfl 69 rfl
              obtain ⟨H, m⟩ := id hJ
              replace hc89 := (Hs.ro 0 rfl).hmd hx85 hi86 (k := 0) (by decide) hc89 m
              exact dp_v (v := (I x84.1)) wn (rv_load1 Try.underlying3 rfl e69 hc89) rfl hJ
             trivial) ?_
           refine ac rfl (by
             intro k; rintro ⟨b96, b97⟩ ρ σm hJ hoff hdep
             have e0 := look_off (N := 80) (hoff 0 rfl) rfl
             exact dp_v (v := (Sl alist_0 list_0 clist_0)) wn (rv_move e0) rfl hJ) ?_
           refine ac rfl (by
             intro k; rintro ⟨b96, b97⟩ ρ σm hJ hoff hdep
             have e10 := look_off (N := 80) (hoff 10 rfl) rfl
             exact dp_v (v := (I s33.2)) wn (rv_move e10) rfl hJ) ?_
           refine ac rfl (by
             intro k; rintro ⟨b96, b97⟩ ρ σm hJ hoff hdep
             have e71 := hdep 6 rfl rfl 71 rfl
             have e72 := hdep 7 rfl rfl 72 rfl
             exact dp_v (v := (pt b93 o94)) wn (rv_ix Try.underlying23 ti32 e71 e72 hi92) rfl hJ) ?_
           refine ac rfl (by
             intro k; rintro ⟨b96, b97⟩ ρ σm hJ hoff hdep
             have e73 := hdep 8 rfl rfl 73 rfl
             exact dp_v (v := (pt b93 (o94 + 0))) wn (rv_fieldAddr (off := 0) (ft := 3) Try.underlying32 rfl ti3 rfl e73) rfl hJ) ?_
           refine all_cons (by
             refine ⟨?_, ?_⟩
             ·rintro ⟨b96, b97⟩ ρ σm hJ hoff hdep
              have e74 := hdep 9 rfl rfl 74 rfl
              obtain ⟨H, m⟩ := id hJ
              replace hc95 := (Hs.ro 0 rfl).hmd hx91 hi92 (k := 0) (by decide) hc95 m
              exact dp_v (v := (I x90.1)) wn (rv_load1 Try.underlying3 rfl e74 hc95) rfl hJ
             trivial) ?_
           refine all_cons (by
             refine ⟨?_, ?_⟩
             ·rintro ⟨b96, b97⟩ ρ σm hJ hoff hdep
              have e70 : look 80 ρ 70 = (I x84.1) := hdep 5 rfl rfl 70 rfl
              have e75 : look 80 ρ 75 = (I x90.1) := hdep 10 rfl rfl 75 rfl
              obtain ⟨H, m⟩ := id hJ
              refine dp_ex wn (ex_buildSlice (el := n0) (xs := ([x84.1, x90.1] : List Int)) (ps := [(0, (I x84.1)), (1, (I x90.1))]) (cs := [(I x84.1), (I x90.1)]) H hn0 Try.underlying30 ti3 rfl (by show [(0, look 80 ρ 70), (1, look 80 ρ 75)] = _; rw [e70, e75]) (by kernel_rfl) (.cons (c := [(I x84.1)]) rfl (.cons (c := [(I x90.1)]) rfl (.nil))) rfl) ?_
              rintro _ σq ⟨b96x, rfl, H2, m2⟩
              obtain ⟨σr0, hwr0, H2, mr0⟩ := H2.pub 0 rfl (Nat.le_refl _)
              exact ⟨_, (b96x, b97), hwr0, rfl, ⟨H2.sel' [0, 1, 2, 3] rfl rfl, m.comp (m2.comp mr0)⟩, stab [0, 1, 2, 3, 4, 5, 6, 7, 8, 9, 10] (by kernel_rfl) ⟨rfl, rfl, rfl, rfl, rfl, rfl, rfl, rfl, rfl, rfl, rfl, trivial⟩⟩
             trivial) ?_
           refine all_cons (by
             refine ⟨?_, ?_⟩
             ·rintro ⟨b96, b97⟩ ρ σm hJ hoff hdep
              have e76 : look 80 ρ 76 = (Sl (some ⟨b96, 0, none⟩) ([x84.1, x90.1] : List Int) 2) := hdep 11 rfl rfl 76 rfl
              obtain ⟨H, m⟩ := id hJ
              refine dp_ex wn (ex_buildSlice (el := n0) (xs := ([([x84.1, x90.1] : List Int)] : List (List Int))) (ps := [(0, (Sl (some ⟨b96, 0, none⟩) ([x84.1, x90.1] : List Int) 2))]) (cs := [(Sl (some ⟨b96, 0, none⟩) ([x84.1, x90.1] : List Int) 2)]) H hn0 Try.underlying26 ti30 rfl (by show [(0, look 80 ρ 76)] = _; rw [e76]) (by kernel_rfl) (.cons (c := [(Sl (some ⟨b96, 0, none⟩) ([x84.1, x90.1] : List Int) 2)]) ⟨_, rfl, (H.ro 0 rfl)⟩ (.nil)) rfl) ?_
              rintro _ σq ⟨b97x, rfl, H2, m2⟩
              exact ⟨_, (b96, b97x), rfl, rfl, ⟨H2.sel' [0, 1, 2, 3, 4] rfl rfl, m.comp0 m2⟩, stab [0, 1, 2, 3, 4, 5, 6, 7, 8, 9, 10, 11] (by kernel_rfl) ⟨rfl, rfl, rfl, rfl, rfl, rfl, rfl, rfl, rfl, rfl, rfl, rfl, trivial⟩⟩
             trivial) ?_
           exact all_nil
          ·rintro ⟨b96, b97⟩ ρ σ98 hJ hoff hrel
           have e0 := look_off (N := 80) (hoff 0 rfl) rfl
           have e8 := look_off (N := 80) (hoff 8 rfl) rfl
           have e9 := look_off (N := 80) (hoff 9 rfl) rfl
           have e10 := look_off (N := 80) (hoff 10 rfl) rfl
           have e65 := hrel 0 rfl 65 rfl
           have e77 := hrel 12 rfl 77 rfl
           obtain ⟨H, -⟩ := (show Hp S0 σ0 σ98 [Ch.own n0 n0 (Sl (some ⟨b97, 0, none⟩) ([([x84.1, x90.1] : List Int)] : List (List Int)) 1) ([([x84.1, x90.1] : List Int)] : List (List Int)), Ch.ro n0 (Sl (some ⟨b96, 0, none⟩) ([x84.1, x90.1] : List Int) 2) ([x84.1, x90.1] : List Int), Ch.ro 0 (Sl alist_0 list_0 clist_0) list_0, Ch.own n0 n0 (Sl a35 s33.1 c36) s33.1, Ch.own n0 n0 (Sl a23 r20 c24) r20] ∧ Md (fun i => (cov []) i ∨ (fun i => (cov []) i ∨ (fun b => blk (Sl (some ⟨b96, 0, none⟩) ([x84.1, x90.1] : List Int) 2) = some b) i) i) σ82 σ98 from hJ)
           clear hJ Hs
           rw [fr_lookL (L := [(0, (Sl alist_0 list_0 clist_0)), (8, (Sl a23 r20 c24)), (9, (I s27.2)), (10, (I s33.2)), (65, (Sl a35 s33.1 c36)), (77, (Sl (some ⟨b97, 0, none⟩) ([([x84.1, x90.1] : List Int)] : List (List Int)) 1))]) ⟨e0, e8, e9, e10, e65, e77, trivial⟩]
           clear hoff hrel e0 e8 e9 e10 e65 e77
           obtain ⟨xs99, hx100, h'⟩ := bind_some h
           clear h
           have h := h'; clear h'
           refine st_ex (ex_append H (i := 3) rfl Try.underlying26 Try.underlying26 ti30 rfl rfl (by decide) (H.own 0 rfl).rd hx100 hn0 rfl rfl) wn ?_
           rintro _ σ103 ⟨a101, c102, rfl, H, -⟩
           refine st (v := (Sl a101 xs99 c102)) (rv_assign rfl) ?_
           refine w_end ?_
           refine q_blk ?_
           obtain rfl := Option.some.inj h
           exact ⟨rfl, _, σ103, a101, c102, fr_join ⟨rfl, rfl, rfl, rfl, rfl, trivial⟩, rfl, H.sel' [3, 0, 4] rfl rfl⟩
         ·replace h := bif_f hb83 h
          refine c_skip ?_
          refine q_blk ?_
          obtain rfl := Option.some.inj h
          exact ⟨rfl, _, σ82, a35, c36, fr_join ⟨rfl, rfl, rfl, rfl, rfl, trivial⟩, rfl, H.sel' [0, 1, 2] rfl rfl⟩
       ·clear hj
        have h := h'
        clear h' H
        rintro e a w ⟨rfl, ρ, σ104, a105, c106, rfl, rfl, H⟩
        refine q_then ?_
        refine rg ?_
        refine st (v := (I s33.2)) (rv_move rfl) ?_
        refine st (v := (I (w64 (s33.2 + 1)))) (rv_add (a := s33.2) (b := 1) rfl rfl) ?_
        refine st (v := (I (w64 (s33.2 + 1)))) (rv_assign rfl) ?_
        refine w_end ?_
        refine q_then ?_
        obtain rfl := Option.some.inj h
        exact ⟨_, rfl, _, σ104, a105, c106, fr_join ⟨rfl, rfl, rfl, rfl, rfl, trivial⟩, rfl, H.sel' [0, 1, 2] rfl rfl⟩
      ·replace h := bif_f hb37 h
       refine c_exit ?_
       refine q_then_x ?_
       refine q_then_x ?_
       refine q_blk_hit ?_
       obtain rfl := Option.some.inj h
       obtain rfl := hres _ rfl
       exact ⟨rfl, _, σ34, a35, c36, fr_join ⟨rfl, rfl, rfl, rfl, trivial⟩, rfl, H.sel' [0, 1, 2] rfl rfl⟩
     ·clear hj
      have h := h'
      clear h' H
      rintro e a w ⟨rfl, ρ, σ107, a108, c109, rfl, rfl, H⟩
      refine q_blk ?_
      refine q_then ?_
      refine rg ?_
      refine st (v := (I s27.2)) (rv_move rfl) ?_
      refine st (v := (I (w64 (s27.2 + 1)))) (rv_add (a := s27.2) (b := 1) rfl rfl) ?_
      refine st (v := (I (w64 (s27.2 + 1)))) (rv_assign rfl) ?_
      refine w_end ?_
      refine q_then ?_
      obtain rfl := Option.some.inj h
      exact ⟨_, rfl, _, σ107, a108, c109, fr_join ⟨rfl, rfl, rfl, rfl, trivial⟩, rfl, H.sel' [0, 1, 2] rfl rfl⟩
    ·replace h := bif_f hb31 h
     refine c_exit ?_
     refine q_then_x ?_
     refine q_then_x ?_
     refine q_blk_hit ?_
     obtain rfl := Option.some.inj h
     obtain rfl := hres _ rfl
     exact ⟨rfl, _, σ28, a29, c30, fr_join ⟨rfl, trivial⟩, rfl, H.sel' [1] rfl rfl⟩
   ·clear hj
    have h := h'
    clear h' H
    rintro e a w ⟨rfl, ρ, σ110, a111, c112, rfl, rfl, H⟩
    refine q_then ?_
    refine c_seq ?_
    refine rg ?_
    refine st (v := (Sl a111 o26 c112)) (rv_move rfl) ?_
    refine st (v := (Sl a111 o26 c112)) (rv_assign rfl) ?_
    refine w_end ?_
    refine q_then ?_
    refine c_ret ?_
    obtain rfl := Option.some.inj h
    exact fin_ret (v := (Sl a111 o26 c112)) (results_ok Try.results15 (res_tmp (v := (Sl a111 o26 c112)) rfl res_nil) rfl) ⟨a111, c112, rfl, rfl⟩ (H.sel' [0] rfl rfl)

theorem c_laws_FnMutualLinksMore {code_0 : List UInt8} {acode_0 : Option Addr} {ccode_0 : Nat} {r : Bool} (h : M.laws_FnMutualLinksMore code_0 = some r) :
    Cal2 Try.prog 7 [(Sl acode_0 code_0 ccode_0)] [Ch.ro 0 (Sl acode_0 code_0 ccode_0) code_0] (fun n0 v L => v = (B r) ∧ L = []) := by
 refine cal2 (n := 77) Try.func7 rfl rfl rfl rfl ?_
 intro S0 σ0 n0 hn0 H
 unfold M.laws_FnMutualLinksMore at h
 refine c_seq ?_
 refine rg ?_
 refine st (v := (B false)) (rv_assign rfl) ?_
 refine w_end ?_
 refine q_then ?_
 refine c_seq ?_
 refine c_seq ?_
 refine rg ?_
 refine st (v := (Sl acode_0 code_0 ccode_0)) (rv_move rfl) ?_
 refine st (v := (I (code_0.length : Int))) (rv_len Try.underlying22 rfl) ?_
 refine st (v := (B (decide (1048576 < (code_0.length : Int))))) (rv_gtr (a := (code_0.length : Int)) (b := 1048576) rfl rfl) ?_
 refine w_end ?_
 refine q_then ?_
 refine cd_cond (decide (1048576 < (code_0.length : Int))) rfl (fun hb1 => ?_) (fun hb1 => ?_)
 ·replace h := bif_t hb1 h
  refine c_seq ?_
  refine rg ?_
  refine st (v := (B true)) (rv_assign rfl) ?_
  refine w_end ?_
  refine q_then ?_
  refine c_ret ?_
  refine q_then_r ?_
  obtain rfl := Option.some.inj h
  exact fin_ret (v := (B true)) (results_ok Try.results7 (res_tmp (v := (B true)) rfl res_nil) rfl) ⟨rfl, rfl⟩ (H.sel' [] rfl rfl)
 ·replace h := bif_f hb1 h
  refine c_skip ?_
  refine q_then ?_
  refine c_seq ?_
  refine rg ?_
  refine st (v := (Sl acode_0 code_0 ccode_0)) (rv_move rfl) ?_
  obtain ⟨r2, hx3, h'⟩ := bind_some h
  clear h
  have h := h'; clear h'
  have hc4 := c_spec_DrawMutualLinks (acode_0 := acode_0) (ccode_0 := ccode_0) hx3
  refine st_call (cx_call hc4 (ent_f hc4.fn rfl) hn0 (show Hp S0 σ0 _ ([Ch.ro 0 (Sl acode_0 code_0 ccode_0) code_0] ++ [Ch.ro 0 (Sl acode_0 code_0 ccode_0) code_0]) from (H.sel' [0, 0] rfl rfl))) wn ?_
  rintro _ σ7 ⟨_, ⟨a5, c6, rfl, rfl⟩, H, -⟩
  replace H : Hp S0 σ0 σ7 [Ch.own n0 n0 (Sl a5 r2.1 c6) r2.1, Ch.ro 0 (Sl acode_0 code_0 ccode_0) code_0] := H
  refine st (v := (.tuple #[(Sl a5 r2.1 c6), (I r2.2.1), (I r2.2.2)])) (rv_move rfl) ?_
  refine st (v := (Sl a5 r2.1 c6)) (rv_extract rfl rfl) ?_
  refine st (v := (I r2.2.1)) (rv_extract rfl rfl) ?_
  refine st (v := (I r2.2.2)) (rv_extract rfl rfl) ?_
  refine st (v := (Sl a5 r2.1 c6)) (rv_assign rfl) ?_
  refine st (v := (I r2.2.1)) (rv_assign rfl) ?_
  refine st (v := (I r2.2.2)) (rv_assign rfl) ?_
  refine w_end ?_
  refine q_then ?_
  refine c_seq ?_
  refine rg ?_
  refine st (v := (Sl a5 r2.1 c6)) (rv_move rfl) ?_
  refine st (v := (I r2.2.1)) (rv_move rfl) ?_
  refine st (v := (I r2.2.2)) (rv_move rfl) ?_
  obtain ⟨r8, hx9, h'⟩ := bind_some h
  clear h
  have h := h'; clear h'
  have hc10 := c_impl_MutualLinks (alist_0 := a5) (clist_0 := c6) hx9
  have hle := Nat.le_trans hn0 H.size
  refine st_call (cx_lend (Loan.lend Loan.nil) hc10 (ent_f hc10.fn rfl) (show Hp S0 σ0 _ ([Ch.own n0 n0 (Sl a5 r2.1 c6) r2.1] ++ ([] ++ [Ch.ro 0 (Sl acode_0 code_0 ccode_0) code_0])) from (H.sel' [0, 1] rfl rfl)) (by rintro _ _ _ ⟨_, _, rfl, rfl⟩; exact ⟨Ab.own (Nat.le_refl _), trivial⟩)) wn ?_
  rintro _ σ13 ⟨_, ⟨a11, c12, rfl, rfl⟩, H, -, -⟩
  replace H : Hp S0 σ0 σ13 [Ch.own σ7.size σ7.size (Sl a11 r8 c12) r8, Ch.own n0 n0 (Sl a5 r2.1 c6) r2.1, Ch.ro 0 (Sl acode_0 code_0 ccode_0) code_0] := H
  replace H := H.ownLow 0 n0 n0 rfl hle hle
  clear hle
  replace H : Hp S0 σ0 σ13 [Ch.own n0 n0 (Sl a11 r8 c12) r8, Ch.own n0 n0 (Sl a5 r2.1 c6) r2.1, Ch.ro 0 (Sl acode_0 code_0 ccode_0) code_0] := H
  refine st (v := (Sl a11 r8 c12)) (rv_assign rfl) ?_
  refine w_end ?_
  refine q_then ?_
  refine c_seq ?_
  refine c_seq ?_
  obtain ⟨o14, hj, h'⟩ := bind_some h
  clear h
  refine c_cut (fun e a w => e = .normal ∧ ∃ (ρ : Nat → Value) (σ : St), a = fr 77 (updL ρ [(3, (Sl a5 r2.1 c6)), (4, (I r2.2.1)), (5, (I r2.2.2)), (6, (Sl a11 r8 c12)), (39, (B o14))]) ∧ w = σ.w ∧ Hp S0 σ0 σ [Ch.own n0 n0 (Sl a5 r2.1 c6) r2.1, Ch.own n0 n0 (Sl a11 r8 c12) r8]) ?_ ?_
  ·clear h'
   rename _ = some o14 => h
   refine rg ?_
   refine st (v := (Sl a11 r8 c12)) (rv_move rfl) ?_
   refine st (v := (Sl a5 r2.1 c6)) (rv_move rfl) ?_
   refine st (v := (I r2.2.1)) (rv_move rfl) ?_
   refine st (v := (I r2.2.2)) (rv_move rfl) ?_
   obtain ⟨r15, hx16, h'⟩ := bind_some h
   clear h
   have h := h'; clear h'
   have hc17 := c_spec_MutualLinks (alist_0 := a5) (clist_0 := c6) hx16
   have hle := Nat.le_trans hn0 H.size
   refine st_call (cx_lend (Loan.lend Loan.nil) hc17 (ent_f hc17.fn rfl) (show Hp S0 σ0 _ ([Ch.own n0 n0 (Sl a5 r2.1 c6) r2.1] ++ ([] ++ [Ch.own n0 n0 (Sl a11 r8 c12) r8, Ch.ro 0 (Sl acode_0 code_0 ccode_0) code_0])) from (H.sel' [1, 0, 2] rfl rfl)) (by rintro _ _ _ ⟨_, _, rfl, rfl⟩; exact ⟨Ab.own (Nat.le_refl _), trivial⟩)) wn ?_
   rintro _ σ20 ⟨_, ⟨a18, c19, rfl, rfl⟩, H, -, -⟩
   replace H : Hp S0 σ0 σ20 [Ch.own σ13.size σ13.size (Sl a18 r15 c19) r15, Ch.own n0 n0 (Sl a5 r2.1 c6) r2.1, Ch.own n0 n0 (Sl a11 r8 c12) r8, Ch.ro 0 (Sl acode_0 code_0 ccode_0) code_0] := H
   replace H := H.ownLow 0 n0 n0 rfl hle hle
   clear hle
   replace H : Hp S0 σ0 σ20 [Ch.own n0 n0 (Sl a18 r15 c19) r15, Ch.own n0 n0 (Sl a5 r2.1 c6) r2.1, Ch.own n0 n0 (Sl a11 r8 c12) r8, Ch.ro 0 (Sl acode_0 code_0 ccode_0) code_0] := H
   obtain ⟨σ21, hw22, H, -⟩ := H.pub 0 rfl (Nat.le_refl _)
   rw [← hw22]; clear hw22
   replace H := H.roLow 0 0 rfl (Nat.zero_le _)
   obtain ⟨r23, hx24, h'⟩ := bind_some h
   clear h
   have h := h'; clear h'
   have hc25 := c_laws_equalLists (aa_0 := a11) (ca_0 := c12) (ab_1 := a18) (cb_1 := c19) hx24
   have hle := Nat.le_trans hn0 H.size
   refine st_call (cx_lend (Loan.lend (Loan.same Loan.nil)) hc25 (ent_f hc25.fn rfl) (show Hp S0 σ0 _ ([Ch.own n0 n0 (Sl a11 r8 c12) r8] ++ ([Ch.ro 0 (Sl a18 r15 c19) r15] ++ [Ch.ro 0 (Sl a18 r15 c19) r15, Ch.ro n0 (Sl a18 r15 c19) r15, Ch.own n0 n0 (Sl a5 r2.1 c6) r2.1, Ch.ro 0 (Sl acode_0 code_0 ccode_0) code_0])) from (H.sel' [3, 0, 0, 1, 2, 4] rfl rfl)) (by rintro _ _ _ ⟨rfl, rfl⟩; exact trivial)) wn ?_
   rintro _ σ26 ⟨_, ⟨rfl, rfl⟩, H, -, -⟩
   replace H : Hp S0 σ0 σ26 [Ch.own n0 n0 (Sl a11 r8 c12) r8, Ch.ro 0 (Sl a18 r15 c19) r15, Ch.ro n0 (Sl a18 r15 c19) r15, Ch.own n0 n0 (Sl a5 r2.1 c6) r2.1, Ch.ro 0 (Sl acode_0 code_0 ccode_0) code_0] := H
   clear hle
   replace H : Hp S0 σ0 σ26 [Ch.own n0 n0 (Sl a11 r8 c12) r8, Ch.ro 0 (Sl a18 r15 c19) r15, Ch.ro n0 (Sl a18 r15 c19) r15, Ch.own n0 n0 (Sl a5 r2.1 c6) r2.1, Ch.ro 0 (Sl acode_0 code_0 ccode_0) code_0] := H
   refine st (v := (B (!r23))) (rv_not rfl) ?_
   refine st (v := (B (!r23))) (rv_move rfl) ?_
   rcases Bool.eq_false_or_eq_true (!r23) with hb27 | hb27
   ·replace h := bif_t hb27 h
    refine st_skip (congrArg some hb27) ?_
    refine st_skip (congrArg some hb27) ?_
    refine st_skip (congrArg some hb27) ?_
    refine st (v := (B true)) (rv_pick_t (congrArg B hb27) rfl) ?_
    refine st (v := (B true)) (rv_move rfl) ?_
    refine st_skip rfl ?_
    refine st_skip rfl ?_
    refine st (v := (B true)) (rv_pick_t rfl rfl) ?_
    refine w_end ?_
    obtain rfl := Option.some.inj h
    exact ⟨rfl, _, σ26, fr_join ⟨rfl, rfl, rfl, rfl, rfl, trivial⟩, rfl, H.sel' [3, 0] rfl rfl⟩
   ·replace h := bif_f hb27 h
    refine st_g (v := (Sl a11 r8 c12)) (congrArg some hb27) (rv_move rfl) ?_
    refine st_g (v := (I (r8.length : Int))) (congrArg some hb27) (rv_len Try.underlying26 rfl) ?_
    refine st_g (v := (B ((r8.length : Int) == 0))) (congrArg some hb27) (rv_eql (a := (r8.length : Int)) (b := 0) rfl rfl) ?_
    refine st (v := (B ((r8.length : Int) == 0))) (rv_pick_f (congrArg B hb27) rfl) ?_
    refine st (v := (B ((r8.length : Int) == 0))) (rv_move rfl) ?_
    rcases Bool.eq_false_or_eq_true ((r8.length : Int) == 0) with hb28 | hb28
    ·replace h := bif_t hb28 h
     refine st_skip (congrArg some hb28) ?_
     refine st_skip (congrArg some hb28) ?_
     refine st (v := (B true)) (rv_pick_t (congrArg B hb28) rfl) ?_
     refine w_end ?_
     obtain rfl := Option.some.inj h
     exact ⟨rfl, _, σ26, fr_join ⟨rfl, rfl, rfl, rfl, rfl, trivial⟩, rfl, H.sel' [3, 0] rfl rfl⟩
    ·replace h := bif_f hb28 h
     refine st_g (v := (I r2.2.2)) (congrArg some hb28) (rv_move rfl) ?_
     refine st_g (v := (B (r2.2.2 == 5))) (congrArg some hb28) (rv_eql (a := r2.2.2) (b := 5) rfl rfl) ?_
     refine st (v := (B (r2.2.2 == 5))) (rv_pick_f (congrArg B hb28) rfl) ?_
     refine w_end ?_
     obtain rfl := Option.some.inj h
     exact ⟨rfl, _, σ26, fr_join ⟨rfl, rfl, rfl, rfl, rfl, trivial⟩, rfl, H.sel' [3, 0] rfl rfl⟩
  ·clear hj
   have h := h'
   clear h' H
   rintro e a w ⟨rfl, ρ, σ29, rfl, rfl, H⟩
   refine q_then ?_
   refine cd_cond o14 rfl (fun hb30 => ?_) (fun hb30 => ?_)
   ·replace h := bif_t hb30 h
    refine c_seq ?_
    refine rg ?_
    refine st (v := (Sl a11 r8 c12)) (rv_move rfl) ?_
    refine st (v := (Sl a5 r2.1 c6)) (rv_move rfl) ?_
    refine st (v := (I r2.2.1)) (rv_move rfl) ?_
    refine st (v := (I r2.2.2)) (rv_move rfl) ?_
    obtain ⟨σ31, hw32, H, -⟩ := H.pub 0 rfl (Nat.le_refl _)
    rw [← hw32]; clear hw32
    replace H := H.roLow 0 0 rfl (Nat.zero_le _)
    obtain ⟨r33, hx34, h'⟩ := bind_some h
    clear h
    have h := h'; clear h'
    have hc35 := c_spec_MutualLinks (alist_0 := a5) (clist_0 := c6) hx34
    refine st_call (cx_call hc35 (ent_f hc35.fn rfl) hn0 (show Hp S0 σ0 _ ([Ch.ro 0 (Sl a5 r2.1 c6) r2.1] ++ [Ch.ro 0 (Sl a5 r2.1 c6) r2.1, Ch.ro n0 (Sl a5 r2.1 c6) r2.1, Ch.own n0 n0 (Sl a11 r8 c12) r8]) from (H.sel' [0, 0, 1, 2] rfl rfl))) wn ?_
    rintro _ σ38 ⟨_, ⟨a36, c37, rfl, rfl⟩, H, -⟩
    replace H : Hp S0 σ0 σ38 [Ch.own n0 n0 (Sl a36 r33 c37) r33, Ch.ro 0 (Sl a5 r2.1 c6) r2.1, Ch.ro n0 (Sl a5 r2.1 c6) r2.1, Ch.own n0 n0 (Sl a11 r8 c12) r8] := H
    obtain ⟨σ39, hw40, H, -⟩ := H.pub 3 rfl (Nat.le_refl _)
    rw [← hw40]; clear hw40
    obtain ⟨σ41, hw42, H, -⟩ := H.pub 1 rfl (Nat.le_refl _)
    rw [← hw42]; clear hw42
    replace H := H.roLow 1 0 rfl (Nat.zero_le _)
    replace H := H.roLow 1 0 rfl (Nat.zero_le _)
    obtain ⟨r43, hx44, h'⟩ := bind_some h
    clear h
    have h := h'; clear h'
    have hc45 := c_laws_equalLists (aa_0 := a11) (ca_0 := c12) (ab_1 := a36) (cb_1 := c37) hx44
    refine st_call (cx_call hc45 (ent_f hc45.fn rfl) hn0 (show Hp S0 σ0 _ ([Ch.ro 0 (Sl a11 r8 c12) r8, Ch.ro 0 (Sl a36 r33 c37) r33] ++ [Ch.ro 0 (Sl a36 r33 c37) r33, Ch.ro 0 (Sl a11 r8 c12) r8, Ch.ro n0 (Sl a36 r33 c37) r33, Ch.ro n0 (Sl a11 r8 c12) r8, Ch.ro 0 (Sl a5 r2.1 c6) r2.1, Ch.ro n0 (Sl a5 r2.1 c6) r2.1]) from (H.sel' [1, 0, 0, 1, 2, 3, 4, 5] rfl rfl))) wn ?_
    rintro _ σ46 ⟨_, ⟨rfl, rfl⟩, H, -⟩
    replace H : Hp S0 σ0 σ46 [Ch.ro 0 (Sl a36 r33 c37) r33, Ch.ro 0 (Sl a11 r8 c12) r8, Ch.ro n0 (Sl a36 r33 c37) r33, Ch.ro n0 (Sl a11 r8 c12) r8, Ch.ro 0 (Sl a5 r2.1 c6) r2.1, Ch.ro n0 (Sl a5 r2.1 c6) r2.1] := H
    refine st (v := (B r43)) (rv_assign rfl) ?_
    refine w_end ?_
    refine q_then ?_
    refine c_ret ?_
    refine q_then_r ?_
    obtain rfl := Option.some.inj h
    exact fin_ret (v := (B r43)) (results_ok Try.results7 (res_tmp (v := (B r43)) rfl res_nil) rfl) ⟨rfl, rfl⟩ (H.sel' [] rfl rfl)
   ·replace h := bif_f hb30 h
    refine c_skip ?_
    refine q_then ?_
    refine c_seq ?_
    refine rg ?_
    refine st (v := (Sl a5 r2.1 c6)) (rv_move rfl) ?_
    refine st (v := (I r2.2.1)) (rv_move rfl) ?_
    refine st (v := (I r2.2.2)) (rv_move rfl) ?_
    refine st (v := (I (w64 (r2.2.2 + 1)))) (rv_add (a := r2.2.2) (b := 1) rfl rfl) ?_
    obtain ⟨σ47, hw48, H, -⟩ := H.pub 0 rfl (Nat.le_refl _)
    rw [← hw48]; clear hw48
    replace H := H.roLow 0 0 rfl (Nat.zero_le _)
    obtain ⟨r49, hx50, h'⟩ := bind_some h
    clear h
    have h := h'; clear h'
    have hc51 := c_impl_MutualLinks (alist_0 := a5) (clist_0 := c6) hx50
    refine st_call (cx_call hc51 (ent_f hc51.fn rfl) hn0 (show Hp S0 σ0 _ ([Ch.ro 0 (Sl a5 r2.1 c6) r2.1] ++ [Ch.ro 0 (Sl a5 r2.1 c6) r2.1, Ch.ro n0 (Sl a5 r2.1 c6) r2.1, Ch.own n0 n0 (Sl a11 r8 c12) r8]) from (H.sel' [0, 0, 1, 2] rfl rfl))) wn ?_
    rintro _ σ54 ⟨_, ⟨a52, c53, rfl, rfl⟩, H, -⟩
    replace H : Hp S0 σ0 σ54 [Ch.own n0 n0 (Sl a52 r49 c53) r49, Ch.ro 0 (Sl a5 r2.1 c6) r2.1, Ch.ro n0 (Sl a5 r2.1 c6) r2.1, Ch.own n0 n0 (Sl a11 r8 c12) r8] := H
    refine st (v := (Sl a52 r49 c53)) (rv_assign rfl) ?_
    refine w_end ?_
    refine q_then ?_
    refine c_seq ?_
    refine c_seq ?_
    refine rg ?_
    refine st (v := (I 0)) (rv_assign rfl) ?_
    refine w_end ?_
    refine q_then ?_
    obtain ⟨o55, hj, h'⟩ := bind_some h
    clear h
    refine c_cut (fun e a w => (∃ t, o55 = (.inl t) ∧ e = .normal ∧ ∃ (ρ : Nat → Value) (σ : St), a = fr 77 (updL ρ []) ∧ w = σ.w ∧ Hp S0 σ0 σ []) ∨ (∃ t, o55 = (.inr t) ∧ e = .ret ∧ ∃ (ρ : Nat → Value) (σ : St), a = fr 77 (updL ρ [(2, (B t))]) ∧ w = σ.w ∧ Hp S0 σ0 σ [])) ?_ ?_
    ·clear h'
     rename _ = some o55 => h
     refine c_blk ?_
     refine wp_loopM _ h (fun s56 a w => ∃ (ρ : Nat → Value) (σ : St), a = fr 77 (updL ρ [(6, (Sl a11 r8 c12)), (7, (Sl a52 r49 c53)), (8, (I s56))]) ∧ w = σ.w ∧ Hp S0 σ0 σ [Ch.own n0 n0 (Sl a11 r8 c12) r8, Ch.own n0 n0 (Sl a52 r49 c53) r49]) ⟨_, σ54, fr_join ⟨rfl, rfl, rfl, trivial⟩, rfl, H.sel' [3, 0] rfl rfl⟩ ?_
     clear h H
     rintro s56 a w o ⟨ρ, σ57, rfl, rfl, H⟩ h hres
     refine c_seq ?_
     refine c_seq ?_
     refine rg ?_
     refine st (v := (I s56)) (rv_move rfl) ?_
     refine st (v := (Sl a11 r8 c12)) (rv_move rfl) ?_
     refine st (v := (I (r8.length : Int))) (rv_len Try.underlying26 rfl) ?_
     refine st (v := (B (decide (s56 < (r8.length : Int))))) (rv_lss (a := s56) (b := (r8.length : Int)) rfl rfl) ?_
     refine w_end ?_
     refine q_then ?_
     refine cd_cond (decide (s56 < (r8.length : Int))) rfl (fun hb58 => ?_) (fun hb58 => ?_)
     ·replace h := bif_t hb58 h
      refine c_skip ?_
      refine q_then ?_
      refine c_seq ?_
      refine c_blk ?_
      refine c_seq ?_
      refine rg ?_
      refine st (v := (B false)) (rv_assign rfl) ?_
      refine w_end ?_
      refine q_then ?_
      refine c_seq ?_
      refine c_seq ?_
      refine rg ?_
      refine st (v := (I 0)) (rv_assign rfl) ?_
      refine w_end ?_
      refine q_then ?_
      obtain ⟨o59, hj, h'⟩ := bind_some h
      clear h
      refine c_cut (fun e a w => e = .normal ∧ ∃ (ρ : Nat → Value) (σ : St), a = fr 77 (updL ρ [(6, (Sl a11 r8 c12)), (7, (Sl a52 r49 c53)), (8, (I s56)), (9, (B o59))]) ∧ w = σ.w ∧ Hp S0 σ0 σ [Ch.own n0 n0 (Sl a11 r8 c12) r8, Ch.own n0 n0 (Sl a52 r49 c53) r49]) ?_ ?_
      ·clear h'
       rename _ = some o59 => h
       refine c_blk ?_
       refine wp_loopM _ h (fun s60 a w => ∃ (ρ : Nat → Value) (σ : St), a = fr 77 (updL ρ [(6, (Sl a11 r8 c12)), (7, (Sl a52 r49 c53)), (8, (I s56)), (9, (B s60.1)), (10, (I s60.2))]) ∧ w = σ.w ∧ Hp S0 σ0 σ [Ch.own n0 n0 (Sl a11 r8 c12) r8, Ch.own n0 n0 (Sl a52 r49 c53) r49]) ⟨_, σ57, fr_join ⟨rfl, rfl, rfl, rfl, rfl, trivial⟩, rfl, H.sel' [0, 1] rfl rfl⟩ ?_
       clear h H
       rintro s60 a w o ⟨ρ, σ61, rfl, rfl, H⟩ h hres
       refine c_seq ?_
       refine c_seq ?_
       refine rg ?_
       refine st (v := (I s60.2)) (rv_move rfl) ?_
       refine st (v := (Sl a52 r49 c53)) (rv_move rfl) ?_
       refine st (v := (I (r49.length : Int))) (rv_len Try.underlying26 rfl) ?_
       refine st (v := (B (decide (s60.2 < (r49.length : Int))))) (rv_lss (a := s60.2) (b := (r49.length : Int)) rfl rfl) ?_
       refine w_end ?_
       refine q_then ?_
       refine cd_cond (decide (s60.2 < (r49.length : Int))) rfl (fun hb62 => ?_) (fun hb62 => ?_)
       ·replace h := bif_t hb62 h
        refine c_skip ?_
        refine q_then ?_
        refine c_seq ?_
        refine c_blk ?_
        obtain ⟨o63, hj, h'⟩ := bind_some h
        clear h
        refine c_cut (fun e a w => e = .normal ∧ ∃ (ρ : Nat → Value) (σ : St), a = fr 77 (updL ρ [(6, (Sl a11 r8 c12)), (7, (Sl a52 r49 c53)), (8, (I s56)), (9, (B o63)), (10, (I s60.2))]) ∧ w = σ.w ∧ Hp S0 σ0 σ [Ch.own n0 n0 (Sl a11 r8 c12) r8, Ch.own n0 n0 (Sl a52 r49 c53) r49]) ?_ ?_
        ·clear h'
         rename _ = some o63 => h
         refine rgP (σ := σ61) 10 (by kernel_rfl) (by kernel_rfl) (by kernel_rfl) ?_
         refine sq (v := (B s60.1)) (rv_move rfl) ?_
         refine sq (v := (B s60.1)) (rv_move rfl) ?_
         rcases Bool.eq_false_or_eq_true s60.1 with hb64 | hb64
         ·replace h := bif_t hb64 h
          refine sq_skip (congrArg some hb64) ?_
          refine sq_skip (congrArg some hb64) ?_
          refine sq_skip (congrArg some hb64) ?_
          refine sq_skip (congrArg some hb64) ?_
          refine sq_skip (congrArg some hb64) ?_
          refine sq_skip (congrArg some hb64) ?_
          refine sq_skip (congrArg some hb64) ?_
          refine sq_skip (congrArg some hb64) ?_
          refine sq_end ?_
          intro σ65 hm66
          replace H := H.grow (hm66.mono fun _ h => h); clear hm66
          refine st_skip (congrArg some hb64) ?_
          refine st (v := (B true)) (rv_pick_t (congrArg B hb64) rfl) ?_
          refine st (v := (B true)) (rv_assign rfl) ?_
          refine w_end ?_
          obtain rfl := Option.some.inj h
          exact ⟨rfl, _, σ65, fr_join ⟨rfl, rfl, rfl, rfl, rfl, trivial⟩, rfl, H.sel' [0, 1] rfl rfl⟩
         ·replace h := bif_f hb64 h
          refine sq_g (v := (Sl a52 r49 c53)) (congrArg some hb64) (rv_move rfl) ?_
          refine sq_g (v := (I s60.2)) (congrArg some hb64) (rv_move rfl) ?_
          obtain ⟨x67, hx68, h'⟩ := bind_some h
          clear h
          have h := h'; clear h'
          obtain ⟨b70, o71, hi69, -⟩ := (H.own 1 rfl).ix hx68
          refine sq_g (v := (pt b70 o71)) (congrArg some hb64) (rv_ix Try.underlying26 ti30 rfl rfl hi69) ?_
          obtain ⟨v75, hc76, hR74⟩ := ((H.own 1 rfl).at hx68 hi69).slice
          obtain ⟨a72, c73, rfl⟩ := hR74.isSl
          replace H := H.add (d := Ch.ro n0 (Sl a72 x67 c73) x67) hR74 (fun _ h => h)
          clear hR74
          refine sq_g (v := (Sl a72 x67 c73)) (congrArg some hb64) (rv_load1 Try.underlying30 rfl rfl hc76) ?_
          refine sq_g (v := (Sl a11 r8 c12)) (congrArg some hb64) (rv_move rfl) ?_
          refine sq_g (v := (I s56)) (congrArg some hb64) (rv_move rfl) ?_
          obtain ⟨x77, hx78, h'⟩ := bind_some h
          clear h
          have h := h'; clear h'
          obtain ⟨b80, o81, hi79, -⟩ := (H.own 1 rfl).ix hx78
          refine sq_g (v := (pt b80 o81)) (congrArg some hb64) (rv_ix Try.underlying26 ti30 rfl rfl hi79) ?_
          obtain ⟨v85, hc86, hR84⟩ := ((H.own 1 rfl).at hx78 hi79).slice
          obtain ⟨a82, c83, rfl⟩ := hR84.isSl
          replace H := H.add (d := Ch.ro n0 (Sl a82 x77 c83) x77) hR84 (fun _ h => h)
          clear hR84
          refine sq_g (v := (Sl a82 x77 c83)) (congrArg some hb64) (rv_load1 Try.underlying30 rfl rfl hc86) ?_
          refine sq_end ?_
          intro σ87 hm88
          replace H := H.grow (hm88.mono fun _ h => h); clear hm88
          replace H := H.roLow 1 0 rfl (Nat.zero_le _)
          replace H := H.roLow 1 0 rfl (Nat.zero_le _)
          obtain ⟨r89, hx90, h'⟩ := bind_some h
          clear h
          have h := h'; clear h'
          have hc91 := c_laws_equalInts (aa_0 := a72) (ca_0 := c73) (ab_1 := a82) (cb_1 := c83) hx90
          refine st_call (cx_call hc91 (ent_f hc91.fn rfl) hn0 (show Hp S0 σ0 _ ([Ch.ro 0 (Sl a72 x67 c73) x67, Ch.ro 0 (Sl a82 x77 c83) x77] ++ [Ch.ro 0 (Sl a82 x77 c83) x77, Ch.ro 0 (Sl a72 x67 c73) x67, Ch.ro n0 (Sl a82 x77 c83) x77, Ch.ro n0 (Sl a72 x67 c73) x67, Ch.own n0 n0 (Sl a11 r8 c12) r8, Ch.own n0 n0 (Sl a52 r49 c53) r49]) from (H.sel' [1, 0, 0, 1, 2, 3, 4, 5] rfl rfl))) (wanted_yes rfl (by exact (congrArg some hb64))) ?_
          rintro _ σ92 ⟨_, ⟨rfl, rfl⟩, H, -⟩
          replace H : Hp S0 σ0 σ92 [Ch.ro 0 (Sl a82 x77 c83) x77, Ch.ro 0 (Sl a72 x67 c73) x67, Ch.ro n0 (Sl a82 x77 c83) x77, Ch.ro n0 (Sl a72 x67 c73) x67, Ch.own n0 n0 (Sl a11 r8 c12) r8, Ch.own n0 n0 (Sl a52 r49 c53) r49] := H
          refine st (v := (B r89)) (rv_pick_f (congrArg B hb64) rfl) ?_
          refine st (v := (B r89)) (rv_assign rfl) ?_
          refine w_end ?_
          obtain rfl := Option.some.inj h
          exact ⟨rfl, _, σ92, fr_join ⟨rfl, rfl, rfl, rfl, rfl, trivial⟩, rfl, H.sel' [4, 5] rfl rfl⟩
        ·clear hj
         have h := h'
         clear h' H
         rintro e a w ⟨rfl, ρ, σ93, rfl, rfl, H⟩
         refine q_blk ?_
         refine q_then ?_
         refine rg ?_
         refine st (v := (I s60.2)) (rv_move rfl) ?_
         refine st (v := (I (w64 (s60.2 + 1)))) (rv_add (a := s60.2) (b := 1) rfl rfl) ?_
         refine st (v := (I (w64 (s60.2 + 1)))) (rv_assign rfl) ?_
         refine w_end ?_
         refine q_then ?_
         obtain rfl := Option.some.inj h
         exact ⟨_, rfl, _, σ93, fr_join ⟨rfl, rfl, rfl, rfl, rfl, trivial⟩, rfl, H.sel' [0, 1] rfl rfl⟩
       ·replace h := bif_f hb62 h
        refine c_exit ?_
        refine q_then_x ?_
        refine q_then_x ?_
        refine q_blk_hit ?_
        obtain rfl := Option.some.inj h
        obtain rfl := hres _ rfl
        exact ⟨rfl, _, σ61, fr_join ⟨rfl, rfl, rfl, rfl, trivial⟩, rfl, H.sel' [0, 1] rfl rfl⟩
      ·clear hj
       have h := h'
       clear h' H
       rintro e a w ⟨rfl, ρ, σ94, rfl, rfl, H⟩
       refine q_then ?_
       refine c_seq ?_
       refine rg ?_
       refine st (v := (B o59)) (rv_move rfl) ?_
       refine st (v := (B (!o59))) (rv_not rfl) ?_
       refine w_end ?_
       refine q_then ?_
       refine cd_cond (!o59) rfl (fun hb95 => ?_) (fun hb95 => ?_)
       ·replace h := bif_t hb95 h
        refine c_seq ?_
        refine rg ?_
        refine st (v := (B false)) (rv_assign rfl) ?_
        refine w_end ?_
        refine q_then ?_
        refine c_ret ?_
        refine q_blk_r ?_
        refine q_then_r ?_
        refine q_then_r ?_
        refine q_blk_r ?_
        obtain rfl := Option.some.inj h
        obtain rfl := hres _ rfl
        exact .inr (⟨_, rfl, rfl, _, σ94, fr_join ⟨rfl, trivial⟩, rfl, H.sel' [] rfl rfl⟩)
       ·replace h := bif_f hb95 h
        refine c_skip ?_
        refine q_blk ?_
        refine q_then ?_
        refine rg ?_
        refine st (v := (I s56)) (rv_move rfl) ?_
        refine st (v := (I (w64 (s56 + 1)))) (rv_add (a := s56) (b := 1) rfl rfl) ?_
        refine st (v := (I (w64 (s56 + 1)))) (rv_assign rfl) ?_
        refine w_end ?_
        refine q_then ?_
        obtain rfl := Option.some.inj h
        exact ⟨_, rfl, _, σ94, fr_join ⟨rfl, rfl, rfl, trivial⟩, rfl, H.sel' [0, 1] rfl rfl⟩
     ·replace h := bif_f hb58 h
      refine c_exit ?_
      refine q_then_x ?_
      refine q_then_x ?_
      refine q_blk_hit ?_
      obtain rfl := Option.some.inj h
      obtain rfl := hres _ rfl
      exact .inl ⟨_, rfl, rfl, _, σ57, fr_join trivial, rfl, H.sel' [] rfl rfl⟩
    ·clear hj
     have h := h'
     clear h' H
     rintro e a w (⟨t96, rfl, rfl, ρ, σ97, rfl, rfl, H⟩ | ⟨t98, rfl, rfl, ρ, σ99, rfl, rfl, H⟩)
     ·replace h := selim_l h
      refine q_then ?_
      refine c_seq ?_
      refine rg ?_
      refine st (v := (B true)) (rv_assign rfl) ?_
      refine w_end ?_
      refine q_then ?_
      refine c_ret ?_
      obtain rfl := Option.some.inj h
      exact fin_ret (v := (B true)) (results_ok Try.results7 (res_tmp (v := (B true)) rfl res_nil) rfl) ⟨rfl, rfl⟩ (H.sel' [] rfl rfl)
     ·replace h := selim_r h
      refine q_then_r ?_
      obtain rfl := Option.some.inj h
      exact fin_ret (v := (B t98)) (results_ok Try.results7 (res_tmp (v := (B t98)) rfl res_nil) rfl) ⟨rfl, rfl⟩ (H.sel' [] rfl rfl)

end Go.Vs
